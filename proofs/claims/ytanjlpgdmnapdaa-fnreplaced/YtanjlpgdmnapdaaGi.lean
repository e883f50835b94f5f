import Derived.Test.YtanjlpgdmnapdaaGh
import Derived.Test.YtanjlpgdmnapdaaGa
namespace Go.Proofs.Ytanjlpgdmnapdaa
open Go.RowKit Go.Maps
set_option linter.unusedSimpArgs false
set_option linter.unusedVariables false

set_option maxRecDepth 100000 in
set_option maxHeartbeats 2000000 in
theorem spec_l13Same {A A' : Option Addr} {n n' cap cap' : Nat} {L L' : List FI} (w : World) (h : FiRow w A L) (h' : FiRow w A' L') (hL : L.length = n) (hL' : L'.length = n') :
    Calls Try.prog 49 #[.slice A n cap, .slice A' n' cap'] w fun e w' => e = .returned (.bool (sameB L L')) ∧ Below w.heap.size w w' := by
  have HR : Hid (FiRow w A L) := h
  have HR' : Hid (FiRow w A' L') := h'
  have HL : Hid (L.length = n) := hL
  have HL' : Hid (L'.length = n') := hL'
  have hn := h.1
  have hn' := h'.1
  rw [hL] at hn
  rw [hL'] at hn'
  unfold maxLen at hn hn'
  clear h h' hL hL'
  by_cases hne : n = n'
  · subst hne
    go_enter Try.func49, Try.ntmps49
    go_wp2_with fail
    go_loopw [5] (fun i wr => ∃ t : Nat, t ≤ n ∧ i = .int .i64 t ∧ (∀ j x y, j < t → L[j]? = some x → L'[j]? = some y → x = y) ∧ Below w.heap.size w wr) (fun i _ => n - (intOf i).toNat)
    case atStart => exact ⟨0, Nat.zero_le _, rfl, fun j x y hj => by omega, Below.refl _ _⟩
    case round =>
      obtain ⟨t, ht, rfl, hall, hbel⟩ := hrel
      have HA : Hid (∀ j x y, j < t → L[j]? = some x → L'[j]? = some y → x = y) := hall
      clear hall
      by_cases hlt : t < n
      · obtain ⟨x, hx⟩ := at_lt HL.out hlt
        obtain ⟨y, hy⟩ := at_lt HL'.out hlt
        have HX : Hid (L[t]? = some x) := hx
        have HY : Hid (L'[t]? = some y) := hy
        obtain ⟨b, o, rfl, hl, hc⟩ := HR.out.2 t x hx
        have c0 : w.cell? ⟨b, o + t * 2, none⟩ = some (.string x.n) := hc 0 _ rfl
        have c1 : w.cell? ⟨b, o + t * 2 + 1, none⟩ = some (.string x.d) := hc 1 _ rfl
        obtain ⟨b', o', rfl, hl', hc'⟩ := HR'.out.2 t y hy
        have d0 : w.cell? ⟨b', o' + t * 2, none⟩ = some (.string y.n) := hc' 0 _ rfl
        have d1 : w.cell? ⟨b', o' + t * 2 + 1, none⟩ = some (.string y.d) := hc' 1 _ rfl
        clear hc hc' hx hy
        rw [← hbel.cell (p := ⟨_, _, none⟩) hl] at c0 c1
        rw [← hbel.cell (p := ⟨_, _, none⟩) hl'] at d0 d1
        have q0 : (0 : Int) ≤ (t : Int) := by omega
        have q1 : (t : Int) < (n : Int) := by omega
        cases e1 : (x.n.toList == y.n.toList) <;> cases e2 : (x.d.toList == y.d.toList)
        all_goals
          go_wp2_with fail
          go_quiet (fail)
          go_wp2_with fail
        · go_ret
          exact ⟨ret_bool (sameB_no HX.out HY.out (by rw [fiEq, e1, e2]; rfl)).symm, below_drewN hbel _⟩
        · go_ret
          exact ⟨ret_bool (sameB_no HX.out HY.out (by rw [fiEq, e1, e2]; rfl)).symm, below_drewN hbel _⟩
        · go_ret
          exact ⟨ret_bool (sameB_no HX.out HY.out (by rw [fiEq, e1, e2]; rfl)).symm, below_drewN hbel _⟩
        · go_roundw
          case rel => exact ⟨t + 1, by omega, by go_num, fun j u v hj hu hv => by
            by_cases e : j = t
            · subst e; rw [HX.out] at hu; rw [HY.out] at hv; cases hu; cases hv; exact fiEq_iff.1 (by rw [fiEq, e1, e2]; rfl)
            · exact HA.out j u v (by omega) hu hv, below_drewN hbel _⟩
          case measure => simp [intOf]; omega
      · have h1 : ¬ (t : Int) < (n : Int) := by omega
        obtain rfl : t = n := by omega
        go_wp2_with fail
        go_ret
        exact ⟨ret_bool (sameB_yes (HL.out.trans HL'.out.symm) (fun i x y hx hy => HA.out i x y (by have := (List.getElem?_eq_some_iff.1 hx).1; have := HL.out; omega) hx hy)).symm, hbel⟩
  · have hne2 : ¬ (n : Int) = (n' : Int) := by omega
    have hne3 : ((n : Int) == (n' : Int)) = false := by simpa using hne2
    go_enter Try.func49, Try.ntmps49
    go_wp2_with fail
    go_ret
    exact ⟨ret_bool (sameB_len (by rw [HL.out, HL'.out]; exact hne)).symm, by go_grown⟩

set_option maxRecDepth 100000 in
set_option maxHeartbeats 4000000 in
theorem spec_l13Form (x : DP) (w : World) (hx : dpOk x) :
    Calls Try.prog 48 #[.agg #[.int .i64 x.k, .string x.n, .string x.t, .string x.d]] w fun e w' => e = .returned (.bool (formB x)) ∧ Below w.heap.size w w' := by
  obtain ⟨k, n, t, d⟩ := x
  have HN : Hid (n.size ≤ maxLen) := hx.1
  have HT : Hid (t.size ≤ maxLen) := hx.2.1
  show Calls Try.prog 48 #[.agg #[.int .i64 k, .string n, .string t, .string d]] w _
  clear hx
  obtain ⟨bn, HBN⟩ : ∃ bn, Hid (nameB n = bn) := ⟨_, rfl⟩
  obtain ⟨bt, HBT⟩ : ∃ bt, Hid (nameB t = bt) := ⟨_, rfl⟩
  obtain ⟨et, HET⟩ : ∃ et, Hid (noB t = et) := ⟨_, rfl⟩
  obtain ⟨ed, HED⟩ : ∃ ed, Hid (noB d = ed) := ⟨_, rfl⟩
  have e1 : t.toList.isEmpty = et := HET.out
  have e2 : d.toList.isEmpty = ed := HED.out
  by_cases hk : 1 ≤ k ∧ k ≤ 3
  · obtain ⟨hk1, hk2⟩ := hk
    have HIN : Hid ((decide (1 ≤ k) && decide (k ≤ 3)) = true) := by show _ = _; simp [hk1, hk2]
    by_cases h2 : k = 2
    · subst h2
      have HF : Hid (formB ⟨2, n, t, d⟩ = (bn && (bt && ed))) := by show _ = _; rw [← HBN.out, ← HBT.out, ← HED.out]; rfl
      rw [HF.out]
      cases bn <;> cases bt
      all_goals
        go_enter Try.func48, Try.ntmps48
        go_wp2_with (first
          | (go_at_call 74; refine (spec_l1In _ _ _ _).mono ?_; rintro e w1 ⟨rfl, rfl⟩; rw [HIN.out])
          | (go_at_call_of 83 (Value.string n); refine (spec_l13Name n _ HN.out).mono ?_; rintro e w1 ⟨rfl, rfl⟩; rw [HBN.out])
          | (go_at_call 83; refine (spec_l13Name t _ HT.out).mono ?_; rintro e w1 ⟨rfl, rfl⟩; rw [HBT.out]))
        go_ret
        exact ⟨rfl, by go_grown⟩
    by_cases h1 : k = 1
    · subst h1
      have HF : Hid (formB ⟨1, n, t, d⟩ = (bn && et)) := by show _ = _; rw [← HBN.out, ← HET.out]; rfl
      rw [HF.out]
      cases bn <;> cases et
      all_goals
        go_enter Try.func48, Try.ntmps48
        go_wp2_with (first
          | (go_at_call 74; refine (spec_l1In _ _ _ _).mono ?_; rintro e w1 ⟨rfl, rfl⟩; rw [HIN.out])
          | (go_at_call 83; refine (spec_l13Name n _ HN.out).mono ?_; rintro e w1 ⟨rfl, rfl⟩; rw [HBN.out]))
        go_ret
        exact ⟨rfl, by go_grown⟩
    · obtain rfl : k = 3 := by omega
      have HF : Hid (formB ⟨3, n, t, d⟩ = (bn && (et && ed))) := by show _ = _; rw [← HBN.out, ← HET.out, ← HED.out]; rfl
      rw [HF.out]
      cases bn <;> cases et
      all_goals
        go_enter Try.func48, Try.ntmps48
        go_wp2_with (first
          | (go_at_call 74; refine (spec_l1In _ _ _ _).mono ?_; rintro e w1 ⟨rfl, rfl⟩; rw [HIN.out])
          | (go_at_call 83; refine (spec_l13Name n _ HN.out).mono ?_; rintro e w1 ⟨rfl, rfl⟩; rw [HBN.out]))
        go_ret
        exact ⟨rfl, by go_grown⟩
  · have HIN : Hid ((decide (1 ≤ k) && decide (k ≤ 3)) = false) := by
      show _ = _
      by_cases a1 : 1 ≤ k
      · rw [decide_eq_false (p := k ≤ 3) (by omega)]; simp
      · rw [decide_eq_false a1]; rfl
    have HF : Hid (formB ⟨k, n, t, d⟩ = false) := by
      show _ = _
      simp only [formB, show ¬ k = 1 by omega, show ¬ k = 2 by omega, show ¬ k = 3 by omega, if_false]
    rw [HF.out]
    clear hk
    go_enter Try.func48, Try.ntmps48
    go_wp2_with (first
      | (go_at_call 74; refine (spec_l1In _ _ _ _).mono ?_; rintro e w1 ⟨rfl, rfl⟩; rw [HIN.out]))
    go_ret
    exact ⟨rfl, by go_grown⟩
end Go.Proofs.Ytanjlpgdmnapdaa
namespace Go.Proofs.Ytanjlpgdmnapdaa
open Go.RowKit Go.Maps
set_option linter.unusedSimpArgs false
set_option linter.unusedVariables false

def doM (x : DP) (L : List FI) : List FI := if findB x L = true then doL x L else L
theorem atI_none {u : List UInt8} {L : List FI} {r : Int} (h : AtI u L r) (hg : getK fiK u L = none) : r = -1 := by
  rcases h with ⟨h1, _⟩ | ⟨i, x, _, _, h2⟩
  · exact h1
  · rw [hg] at h2; cases h2
theorem atI_some {u : List UInt8} {L : List FI} {r : Int} {y : FI} (h : AtI u L r) (hg : getK fiK u L = some y) : ∃ i : Nat, r = (i : Int) ∧ L[i]? = some y := by
  rcases h with ⟨_, h1⟩ | ⟨i, x, h1, h2, h3⟩
  · rw [hg] at h1; cases h1
  · rw [hg] at h3; cases h3; exact ⟨i, h1, h2⟩
theorem emp_app (d : ByteArray) : (⟨#[]⟩ : ByteArray) ++ d = d := by
  apply ByteArray.ext
  simp
set_option maxRecDepth 100000 in
set_option maxHeartbeats 4000000 in
theorem spec_l13Do {A : Option Addr} {N cap : Nat} {L : List FI} (x : DP) (w : World) (h : FiRow w A L) (hL : L.length = N) (h0 : A = none → cap = 0) (hU : Up fiK L) (hn : N ≤ 1073741823) (hd : x.d.size ≤ 1099511627776) (ht : totL L ≤ 1099511627776) :
    Calls Try.prog 47 #[.slice A N cap, .agg #[.int .i64 x.k, .string x.n, .string x.t, .string x.d]] w fun e w' => ∃ v, e = .returned (.tuple #[v, .bool (findB x L)]) ∧ w'.ownsRow w.heap.size 75 2 v (doM x L).length (flat fiL (doM x L)) ∧ Below w.heap.size w w' := by
  obtain ⟨k, n, t, d⟩ := x
  have HR : Hid (FiRow w A L) := h
  have HL : Hid (L.length = N) := hL
  have H0 : Hid (A = none → cap = 0) := h0
  have HU : Hid (Up fiK L) := hU
  have HT : Hid (totL L ≤ 1099511627776) := ht
  have hd : d.size ≤ 1099511627776 := hd
  show Calls Try.prog 47 #[.slice A N cap, .agg #[.int .i64 k, .string n, .string t, .string d]] w _
  clear h hL h0 hU ht
  cases hg : getK fiK n.data.toList L with
  | none =>
    have HG : Hid (getK fiK n.data.toList L = none) := hg
    have HD : Hid (dataK n.data.toList L = ⟨#[]⟩) := by show _ = _; rw [dataK, hg]
    by_cases h1 : k = 1
    · subst h1
      have HM : Hid (doM ⟨1, n, t, d⟩ L = putK fiK ⟨n, d⟩ L) := by
        show putK fiK ⟨n, dataK n.data.toList L ++ d⟩ L = _
        rw [HD.out, emp_app]
      have HFD : Hid (findB ⟨1, n, t, d⟩ L = true) := rfl
      rw [HM.out, HFD.out]
      clear hg
      go_enter Try.func47, Try.ntmps47
      go_wp2_with (first
        | (go_at_call 62; refine (spec_l13At n _ (HR.out.below (by go_grown)) HL.out).mono ?_; rintro e w1 ⟨r, rfl, hr, rfl⟩; obtain rfl := atI_none hr HG.out; clear hr)
        | (go_at_call 84; refine (spec_l13Put n d _ (HR.out.below (by go_grown)) HL.out HU.out (by omega)).mono ?_; rintro e w2 ⟨v, rfl, hown, hb⟩; have HO : Hid (w2.ownsRow w.heap.size 75 2 v (putK fiK ⟨n, d⟩ L).length (flat fiL (putK fiK ⟨n, d⟩ L))) := own_mono hown (by simp); have HB2 : Hid (Below w.heap.size w w2) := (Below.trans (by go_grown) (hb.mono (by simp))); obtain ⟨vA, vc, rfl, y1, y2⟩ := own_shape HO.out; clear hown hb y1 y2))
      refine bodyPost_ret (v := .tuple #[.slice vA (putK fiK ⟨n, d⟩ L).length vc, .bool true]) ?_ rfl ⟨_, rfl, HO.out, HB2.out⟩
      simp (maxDischargeDepth := 9) [results, Try.results47, go_sem, *]
    · have HFD : Hid (findB ⟨k, n, t, d⟩ L = false) := by
        show _ = _
        simp only [findB, h1, if_false, hasB, hg]; rfl
      have HM : Hid (doM ⟨k, n, t, d⟩ L = L) := by show _ = _; rw [doM, HFD.out]; rfl
      have q1 : (k == 1) = false := by simpa using h1
      rw [HM.out, HFD.out, HL.out]
      clear hg h1
      go_enter Try.func47, Try.ntmps47
      go_wp2_with (first
        | (go_at_call 62; refine (spec_l13At n _ (HR.out.below (by go_grown)) HL.out).mono ?_; rintro e w1 ⟨r, rfl, hr, rfl⟩; obtain rfl := atI_none hr HG.out; clear hr)
        | (at_builtin; refine wpList_copy_fi rfl _ _ rfl w.heap.size (by simp; omega) _ rfl (own_empty (by simp) (by simp)) rfl HL.out H0.out (HR.out.below (by go_grown)) (by omega) ?_)
        | go_in)
      intro A' c' w2 hown hz hgr
      have HO : Hid (w2.ownsRow w.heap.size 75 2 (.slice A' N c') N (flat fiL L)) := hown
      have HB2 : Hid (Below w.heap.size w w2) := Below.grown (by go_grown) hgr (by simp; omega) (fun q hq => by simp [Value.ownBlock] at hq; omega)
      clear hown hz hgr
      go_wp2_with fail
      refine bodyPost_ret (v := .tuple #[.slice A' N c', .bool false]) ?_ rfl ⟨_, rfl, HO.out, HB2.out⟩
      simp (maxDischargeDepth := 9) [results, Try.results47, go_sem, *]
  | some y =>
    have HG : Hid (getK fiK n.data.toList L = some y) := hg
    have HD : Hid (dataK n.data.toList L = y.d) := by show _ = _; rw [dataK, hg]
    have hyd : y.d.size ≤ 1099511627776 := Nat.le_trans (tot_mem (getK_some hg).1) HT.out
    by_cases h1 : k = 1
    · subst h1
      have HM : Hid (doM ⟨1, n, t, d⟩ L = putK fiK ⟨n, y.d ++ d⟩ L) := by
        show putK fiK ⟨n, dataK n.data.toList L ++ d⟩ L = _
        rw [HD.out]
      have HFD : Hid (findB ⟨1, n, t, d⟩ L = true) := rfl
      rw [HM.out, HFD.out]
      clear hg
      have hcat : ¬ 9223372036854775807 < y.d.size + d.size := by omega
      go_enter Try.func47, Try.ntmps47
      go_wp2_with fail
      refine (spec_l13At n _ (HR.out.below (by go_grown)) HL.out).mono ?_
      rintro e w1 ⟨r, rfl, hr, rfl⟩
      obtain ⟨i, rfl, hi⟩ := atI_some hr HG.out
      clear hr
      have hiN : i < N := by rw [← HL.out]; exact (List.getElem?_eq_some_iff.1 hi).1
      obtain ⟨b, o, rfl, hl, hc⟩ := HR.out.2 i y hi
      have c1 : w.cell? ⟨b, o + i * 2 + 1, none⟩ = some (.string y.d) := hc 1 _ rfl
      clear hc hi
      have q0 : (0 : Int) ≤ (i : Int) := by omega
      have q1 : (i : Int) < (N : Int) := by omega
      go_wp2_with (first
        | (go_at_call 84; refine (spec_l13Put n (y.d ++ d) _ (HR.out.below (by go_grown)) HL.out HU.out (by omega)).mono ?_; rintro e w2 ⟨v, rfl, hown, hb⟩; have HO : Hid (w2.ownsRow w.heap.size 75 2 v (putK fiK ⟨n, y.d ++ d⟩ L).length (flat fiL (putK fiK ⟨n, y.d ++ d⟩ L))) := own_mono hown (by simp); have HB2 : Hid (Below w.heap.size w w2) := (Below.trans (by go_grown) (hb.mono (by simp))); obtain ⟨vA, vc, rfl, y1, y2⟩ := own_shape HO.out; clear hown hb y1 y2))
      refine bodyPost_ret (v := .tuple #[.slice vA (putK fiK ⟨n, y.d ++ d⟩ L).length vc, .bool true]) ?_ rfl ⟨_, rfl, HO.out, HB2.out⟩
      simp (maxDischargeDepth := 9) [results, Try.results47, go_sem, *]
    · have HFD : Hid (findB ⟨k, n, t, d⟩ L = true) := by
        show _ = _
        simp only [findB, h1, if_false, hasB, hg]; rfl
      have q1 : (k == 1) = false := by simpa using h1
      by_cases h2 : k = 2
      · subst h2
        have HM : Hid (doM ⟨2, n, t, d⟩ L = putK fiK ⟨t, y.d⟩ (cutK fiK n.data.toList L)) := by
          show _ = _
          rw [doM, HFD.out, if_pos rfl]
          show putK fiK ⟨t, dataK n.data.toList L⟩ (cutK fiK n.data.toList L) = _
          rw [HD.out]
        rw [HM.out, HFD.out]
        clear hg h1
        go_enter Try.func47, Try.ntmps47
        go_wp2_with fail
        refine (spec_l13At n _ (HR.out.below (by go_grown)) HL.out).mono ?_
        rintro e w1 ⟨r, rfl, hr, rfl⟩
        obtain ⟨i, rfl, hi⟩ := atI_some hr HG.out
        clear hr
        have hiN : i < N := by rw [← HL.out]; exact (List.getElem?_eq_some_iff.1 hi).1
        have HI : Hid (L[i]? = some y) := hi
        clear hi
        have q0 : (0 : Int) ≤ (i : Int) := by omega
        have q2 : (i : Int) < (N : Int) := by omega
        have q3 : ¬ (i : Int) < 0 := by omega
        go_wp2_with fail
        refine (spec_l13Cut n _ (HR.out.below (by go_grown)) HL.out (by omega)).mono ?_
        rintro e w2 ⟨v, rfl, hown, hb⟩
        obtain ⟨cA, cc, rfl, y1, y2⟩ := own_shape hown
        have hcl := len_cutK (key := fiK) n.data.toList L
        have HRC : Hid (FiRow w2 cA (cutK fiK n.data.toList L)) := RowAt.of_own fiL_len hown rfl
        obtain ⟨hcb, hfb, hC, hF, hz, hk, l0⟩ := bk1 (w := w) (by go_grown) (by go_size) hb
        have HB2 : Hid (Below w.heap.size w w2) := hk
        obtain ⟨b, o, rfl, hl, hc⟩ := (HR.out.below HB2.out).2 i y HI.out
        have c1 : w2.cell? ⟨b, o + i * 2 + 1, none⟩ = some (.string y.d) := hc 1 _ rfl
        have d2 : w2.cell? ⟨w.heap.size, 2, none⟩ = some (.string t) := by rw [hcb _ _ (by omega)]; simp
        have d0 : w2.cell? ⟨w.heap.size, 0, none⟩ = some (.int .i64 2) := by rw [hcb _ _ (by omega)]; simp
        have hcN : (cutK fiK n.data.toList L).length ≤ 1073741823 := by have := HL.out; omega
        obtain ⟨cn, HCN⟩ : ∃ cn, Hid ((cutK fiK n.data.toList L).length = cn) := ⟨_, rfl⟩
        rw [HCN.out] at hcN ⊢
        clear hb hown y1 y2 hc hcb hfb hC hF hk hcl
        go_wp2_with fail
        go_region_held3 (fun w' => (∀ bq oq, bq < w2.heap.size → w'.cell? ⟨bq, oq, none⟩ = w2.cell? ⟨bq, oq, none⟩) ∧ w2.heap.size ≤ w'.heap.size ∧ Below w2.heap.size w2 w')
          (exact sc_of (Nat.le_refl _) (by go_grown))
          (first
          | (go_at_call 84; refine (spec_l13Put t y.d _ (HRC.out.below (by go_grown)) HCN.out (up_cutK HU.out) (by omega)).mono ?_; rintro e w3 ⟨v3, rfl, hown3, hb⟩; obtain ⟨hk3, hz3⟩ := bframe (B := w2.heap.size) (X := w2) (by go_grown) (by go_size) hb; have HO : Hid (w3.ownsRow w.heap.size 75 2 v3 (putK fiK ⟨t, y.d⟩ (cutK fiK n.data.toList L)).length (flat fiL (putK fiK ⟨t, y.d⟩ (cutK fiK n.data.toList L)))) := own_mono hown3 (by simp; omega); obtain ⟨vA, vc, rfl, y1, y2⟩ := own_shape HO.out; clear hb hown3 y1 y2))
        all_goals go_wp2_with fail
        all_goals
          refine bodyPost_ret (v := .tuple #[.slice vA (putK fiK ⟨t, y.d⟩ (cutK fiK n.data.toList L)).length vc, .bool true]) ?_ rfl ⟨_, rfl, HO.out, HB2.out.trans (hk3.mono HB2.out.size)⟩
          simp (maxDischargeDepth := 9) [results, Try.results47, go_sem, *]
      · have HM : Hid (doM ⟨k, n, t, d⟩ L = cutK fiK n.data.toList L) := by
          show _ = _
          rw [doM, HFD.out, if_pos rfl]
          simp only [doL, h1, h2, if_false]
        have q2 : (k == 2) = false := by simpa using h2
        rw [HM.out, HFD.out]
        clear hg h1 h2
        go_enter Try.func47, Try.ntmps47
        go_wp2_with fail
        refine (spec_l13At n _ (HR.out.below (by go_grown)) HL.out).mono ?_
        rintro e w1 ⟨r, rfl, hr, rfl⟩
        obtain ⟨i, rfl, hi⟩ := atI_some hr HG.out
        clear hr hi
        have q3 : ¬ (i : Int) < 0 := by omega
        go_wp2_with fail
        refine (spec_l13Cut n _ (HR.out.below (by go_grown)) HL.out (by omega)).mono ?_
        rintro e w2 ⟨v, rfl, hown, hb⟩
        obtain ⟨cA, cc, rfl, y1, y2⟩ := own_shape hown
        obtain ⟨hcb, hfb, hC, hF, hz, hk, l0⟩ := bk1 (w := w) (by go_grown) (by go_size) hb
        have HB2 : Hid (Below w.heap.size w w2) := hk
        have d0 : w2.cell? ⟨w.heap.size, 0, none⟩ = some (.int .i64 k) := by rw [hcb _ _ (by omega)]; simp
        have HO : Hid (w2.ownsRow w.heap.size 75 2 (.slice cA (cutK fiK n.data.toList L).length cc) (cutK fiK n.data.toList L).length (flat fiL (cutK fiK n.data.toList L))) := own_mono hown (by simp)
        clear hb hown y1 y2 hcb hfb hC hF hk
        go_wp2_with fail
        refine bodyPost_ret (v := .tuple #[.slice cA (cutK fiK n.data.toList L).length cc, .bool true]) ?_ rfl ⟨_, rfl, HO.out, HB2.out⟩
        simp (maxDischargeDepth := 9) [results, Try.results47, go_sem, *]
end Go.Proofs.Ytanjlpgdmnapdaa
namespace Go.Proofs.Ytanjlpgdmnapdaa
open Go.RowKit Go.Maps
set_option linter.unusedSimpArgs false
set_option linter.unusedVariables false

theorem files_parts {L : List FI} (h : filesB L = true) : L.length ≤ 60 ∧ Up fiK L ∧ (∀ x ∈ L, nameB x.n = true) ∧ totL L ≤ 200000 := by
  simp only [filesB, Bool.and_eq_true, decide_eq_true_eq, List.all_eq_true] at h
  exact ⟨h.1, (asc_up L).1 h.2.1, h.2.2.1, h.2.2.2⟩
theorem files_fit {L : List FI} (hU : Up fiK L) (hn : ∀ x ∈ L, nameB x.n = true) : filesB L = fitB L := by
  rw [filesB, (asc_up L).2 hU, List.all_eq_true.2 hn, fitB]; rfl
theorem form_name {x : DP} (h : formB x = true) : nameB x.n = true ∧ (x.k = 2 → nameB x.t = true) := by
  unfold formB at h
  split at h
  · simp only [Bool.and_eq_true] at h
    exact ⟨h.1, fun e => by omega⟩
  · split at h
    · simp only [Bool.and_eq_true] at h
      exact ⟨h.1, fun _ => h.2.1⟩
    · split at h
      · simp only [Bool.and_eq_true] at h
        exact ⟨h.1, fun e => by omega⟩
      · cases h
theorem up_do {x : DP} {L : List FI} (hU : Up fiK L) : Up fiK (doL x L) := by
  unfold doL
  split
  · exact up_putK hU
  · split
    · exact up_putK (up_cutK hU)
    · exact up_cutK hU
theorem names_do {x : DP} {L : List FI} {P : ByteArray → Prop} (hn : ∀ y ∈ L, P y.n) (h1 : P x.n) (h2 : x.k = 2 → P x.t) : ∀ y ∈ doL x L, P y.n := by
  intro y hy
  unfold doL at hy
  split at hy
  · rcases mem_putK.1 hy with rfl | ⟨h, _⟩
    · exact h1
    · exact hn y h
  · split at hy
    · rename_i hk
      rcases mem_putK.1 hy with rfl | ⟨h, _⟩
      · exact h2 hk
      · exact hn y (mem_cutK.1 h).1
    · exact hn y (mem_cutK.1 hy).1
theorem len_do (x : DP) (L : List FI) : (doL x L).length ≤ L.length + 1 := by
  unfold doL
  split
  · exact len_putK _ _
  · split
    · have h1 := len_putK (key := fiK) ⟨x.t, dataK x.n.data.toList L⟩ (cutK fiK x.n.data.toList L)
      have h2 := len_cutK (key := fiK) x.n.data.toList L
      omega
    · have := len_cutK (key := fiK) x.n.data.toList L
      omega
theorem files_do {x : DP} {L : List FI} (h : filesB L = true) (hf : formB x = true) : filesB (doL x L) = fitB (doL x L) := by
  obtain ⟨_, h2, h3, _⟩ := files_parts h
  obtain ⟨h5, h6⟩ := form_name hf
  exact files_fit (up_do h2) (names_do (P := fun s => nameB s = true) h3 h5 h6)
theorem doC_of {x : DP} {L : List FI} (h1 : formB x = true) (h2 : findB x L = true) (h3 : fitB (doL x L) = true) : doC x L = 0 := by
  rw [doC, if_neg (by rw [h1]; simp), if_neg (by rw [h2]; simp), if_neg (by rw [h3]; simp)]
theorem doC_no {x : DP} {L : List FI} (h : formB x = false ∨ findB x L = false ∨ fitB (doL x L) = false) : doC x L ≠ 0 := by
  intro e
  obtain ⟨h1, h2, h3⟩ := doC_zero e
  rcases h with h | h | h
  · rw [h] at h1; cases h1
  · rw [h] at h2; cases h2
  · rw [h] at h3; cases h3
theorem name_max {s : ByteArray} (h : nameB s = true) : s.size ≤ maxLen := by
  simp only [nameB, decide_eq_true_eq] at h
  unfold maxLen
  omega

set_option maxRecDepth 100000 in
set_option maxHeartbeats 8000000 in
theorem spec_DiskOk {v : Value} {d : DK} (w : World) (h : DkRow w v d) (hl : DkLil d) :
    Calls Try.prog 15 #[v] w fun e w' => e = .returned (.bool (diskB d)) ∧ Below w.heap.size w w' := by
  obtain ⟨A1, c1, A2, c2, A3, c3, rfl, h1, h2, h3, z1, z2, z3⟩ := h
  have HR1 : Hid (FiRow w A1 d.live) := h1
  have HR2 : Hid (FiRow w A2 d.safe) := h2
  have HR3 : Hid (DpRow w A3 d.ops) := h3
  have HZ2 : Hid (A2 = none → c2 = 0) := z2
  have HL : Hid (DkLil d) := hl
  obtain ⟨n1, HN1⟩ : ∃ n1, Hid (d.live.length = n1) := ⟨_, rfl⟩
  obtain ⟨n2, HN2⟩ : ∃ n2, Hid (d.safe.length = n2) := ⟨_, rfl⟩
  obtain ⟨n3, HN3⟩ : ∃ n3, Hid (d.ops.length = n3) := ⟨_, rfl⟩
  have hn1 : n1 ≤ 1048576 := by rw [← HN1.out]; exact hl.n1
  have hn2 : n2 ≤ 1048576 := by rw [← HN2.out]; exact hl.n2
  have hn3 : n3 ≤ 1048576 := by rw [← HN3.out]; exact hl.n3
  have HT1 : Hid (totL d.live ≤ 1099511627776) := by
    have := tot_lil hl.l1
    rw [HN1.out] at this
    show _ ≤ _
    omega
  have HT2 : Hid (totL d.safe ≤ 1099511627776) := by
    have := tot_lil hl.l2
    rw [HN2.out] at this
    show _ ≤ _
    omega
  rw [HN1.out, HN2.out, HN3.out]
  clear h1 h2 h3 hl z1 z2 z3
  obtain ⟨f1, HF1⟩ : ∃ f1, Hid (filesB d.live = f1) := ⟨_, rfl⟩
  obtain ⟨f2, HF2⟩ : ∃ f2, Hid (filesB d.safe = f2) := ⟨_, rfl⟩
  cases f1
  · have HE : Hid (diskB d = false) := by show _ = _; rw [diskB, HF1.out]; rfl
    rw [HE.out]
    go_enter Try.func15, Try.ntmps15
    go_wp2_with (first
      | (go_at_call 46; refine (spec_l13Files _ (HR1.out.below (by go_grown)) HN1.out (fun x hx => (fiOk_of (HL.out.l1 x hx)).1) HT1.out (by omega)).mono ?_; rintro e w1 ⟨rfl, hb⟩; rw [HF1.out]; have HB1 : Hid (Below w.heap.size w w1) := (Below.trans (by go_grown) (hb.mono (by simp))); clear hb))
    go_ret
    exact ⟨rfl, HB1.out⟩
  cases f2
  · have HE : Hid (diskB d = false) := by show _ = _; rw [diskB, HF1.out, HF2.out]; rfl
    rw [HE.out]
    go_enter Try.func15, Try.ntmps15
    go_wp2_with fail
    refine (spec_l13Files _ (HR1.out.below (by go_grown)) HN1.out (fun x hx => (fiOk_of (HL.out.l1 x hx)).1) HT1.out (by omega)).mono ?_
    rintro e w1 ⟨rfl, hb⟩
    rw [HF1.out]
    obtain ⟨hc, hf, hC, hF, hz, hk, l0⟩ := bk1 (w := w) (by go_grown) (by go_size) hb
    have HB1 : Hid (Below w.heap.size w w1) := hk
    clear hb hk
    go_wp2_with fail
    refine (spec_l13Files _ (HR2.out.below HB1.out) HN2.out (fun x hx => (fiOk_of (HL.out.l2 x hx)).1) HT2.out (by omega)).mono ?_
    rintro e w2 ⟨rfl, hb⟩
    rw [HF2.out]
    have HB2 : Hid (Below w.heap.size w w2) := bchain HB1.out hb
    clear hb
    go_wp2_with fail
    go_ret
    exact ⟨rfl, HB2.out⟩
  by_cases h200 : (200 : Int) < (n3 : Int)
  · have HE : Hid (diskB d = false) := by show _ = _; rw [diskB, HF1.out, HF2.out, decide_eq_false (by rw [HN3.out]; omega)]; rfl
    rw [HE.out]
    go_enter Try.func15, Try.ntmps15
    go_wp2_with fail
    refine (spec_l13Files _ (HR1.out.below (by go_grown)) HN1.out (fun x hx => (fiOk_of (HL.out.l1 x hx)).1) HT1.out (by omega)).mono ?_
    rintro e w1 ⟨rfl, hb⟩
    rw [HF1.out]
    obtain ⟨hc, hf, hC, hF, hz, hk, l0⟩ := bk1 (w := w) (by go_grown) (by go_size) hb
    have HB1 : Hid (Below w.heap.size w w1) := hk
    clear hb hk
    go_wp2_with fail
    refine (spec_l13Files _ (HR2.out.below HB1.out) HN2.out (fun x hx => (fiOk_of (HL.out.l2 x hx)).1) HT2.out (by omega)).mono ?_
    rintro e w2 ⟨rfl, hb⟩
    rw [HF2.out]
    obtain ⟨hc2, hf2, hC2, hF2, hz2, hk2, l02⟩ := bk1 (w := w) HB1.out (by omega) hb
    have HB2 : Hid (Below w.heap.size w w2) := hk2
    clear hb hk2
    go_wp2_with fail
    go_ret
    exact ⟨rfl, HB2.out⟩
  have HE : Hid (diskB d = (match runO d.ops d.safe with | some L => sameB L d.live | none => false)) := by
    show _ = _
    rw [diskB, HF1.out, HF2.out, decide_eq_true (by rw [HN3.out]; omega)]; rfl
  go_enter Try.func15, Try.ntmps15
  go_wp2_with fail
  refine (spec_l13Files _ (HR1.out.below (by go_grown)) HN1.out (fun x hx => (fiOk_of (HL.out.l1 x hx)).1) HT1.out (by omega)).mono ?_
  rintro e w1 ⟨rfl, hb⟩
  rw [HF1.out]
  have k0 := cy hb (b := w.heap.size) (o := 0) (x := .slice A1 n1 c1) (by simp)
  have k1 := cy hb (b := w.heap.size) (o := 1) (x := .slice A2 n2 c2) (by simp)
  have k2 := cy hb (b := w.heap.size) (o := 2) (x := .slice A3 n3 c3) (by simp)
  have HB1 : Hid (Below w.heap.size w w1) := Below.trans (by go_grown) (hb.mono (by simp))
  clear hb
  go_wp2_with fail
  refine (spec_l13Files _ (HR2.out.below HB1.out) HN2.out (fun x hx => (fiOk_of (HL.out.l2 x hx)).1) HT2.out (by omega)).mono ?_
  rintro e w2 ⟨rfl, hb⟩
  rw [HF2.out]
  replace k0 := cy hb k0
  replace k1 := cy hb k1
  replace k2 := cy hb k2
  have HB2 : Hid (Below w.heap.size w w2) := bchain HB1.out hb
  have HK0 : Hid (w2.cell? ⟨w.heap.size, 0, none⟩ = some (.slice A1 n1 c1)) := k0
  have HK2 : Hid (w2.cell? ⟨w.heap.size, 2, none⟩ = some (.slice A3 n3 c3)) := k2
  have HS2 : Hid (w.heap.size < w2.heap.size) := World.block_lt_of_cell? w2 ⟨w.heap.size, 0, none⟩ k0
  clear hb
  go_wp2_with fail
  clear k0 k1 k2 h200
  go_loopw [3, 4] (fun q i wr => ∃ (t : Nat) (L : List FI) (A : Option Addr) (c : Nat), t ≤ n3 ∧ i = .int .i64 t ∧ q = .slice A L.length c ∧ FiRow wr A L ∧ (A = none → c = 0) ∧ filesB L = true ∧ runO (d.ops.take t) d.safe = some L ∧ Below w2.heap.size w2 wr) (fun _ i _ => n3 - (intOf i).toNat)
  case atStart => exact ⟨0, d.safe, A2, c2, Nat.zero_le _, rfl, by rw [HN2.out], HR2.out.below HB2.out, HZ2.out, HF2.out, by simp [runO], Below.refl _ _⟩
  case round =>
    obtain ⟨t, L, A, c, ht, rfl, rfl, hRL, hz0, hfl, hrun, hbel⟩ := hrel
    have HRN : Hid (runO (d.ops.take t) d.safe = some L) := hrun
    have HRL : Hid (FiRow wr A L) := hRL
    have HZ : Hid (A = none → c = 0) := hz0
    have HFL : Hid (filesB L = true) := hfl
    obtain ⟨l60, lup, lnm, ltt⟩ := files_parts hfl
    have HUP : Hid (Up fiK L) := lup
    have HNM : Hid (∀ x ∈ L, nameB x.n = true) := lnm
    have HTL : Hid (totL L ≤ 200000) := ltt
    obtain ⟨ln, HLN⟩ : ∃ ln, Hid (L.length = ln) := ⟨_, rfl⟩
    rw [HLN.out] at l60 ⊢
    have k0 : wr.cell? ⟨w.heap.size, 0, none⟩ = some (.slice A1 n1 c1) := (hbel.cell (p := ⟨w.heap.size, 0, none⟩) HS2.out).trans HK0.out
    have k2 : wr.cell? ⟨w.heap.size, 2, none⟩ = some (.slice A3 n3 c3) := (hbel.cell (p := ⟨w.heap.size, 2, none⟩) HS2.out).trans HK2.out
    have HB : Hid (Below w2.heap.size w2 wr) := hbel
    have HBW : Hid (Below w.heap.size w wr) := HB2.out.trans (hbel.mono HB2.out.size)
    clear hrun hRL hz0 hfl hbel lup lnm ltt
    by_cases hlt : t < n3
    · obtain ⟨x, hx⟩ := at_lt HN3.out hlt
      have HX : Hid (d.ops[t]? = some x) := hx
      have hxl := HL.out.l3 x (List.mem_of_getElem? hx)
      have HXL : Hid (dpLil x) := hxl
      obtain ⟨b, o, rfl, hl, hc⟩ := HR3.out.2 t x hx
      have d0 : w.cell? ⟨b, o + t * 4, none⟩ = some (.int .i64 x.k) := hc 0 _ rfl
      have d1 : w.cell? ⟨b, o + t * 4 + 1, none⟩ = some (.string x.n) := hc 1 _ rfl
      have d2 : w.cell? ⟨b, o + t * 4 + 2, none⟩ = some (.string x.t) := hc 2 _ rfl
      have d3 : w.cell? ⟨b, o + t * 4 + 3, none⟩ = some (.string x.d) := hc 3 _ rfl
      clear hc hx hxl
      rw [← HBW.out.cell (p := ⟨_, _, none⟩) hl] at d0 d1 d2 d3
      have q0 : (0 : Int) ≤ (t : Int) := by omega
      have q1 : (t : Int) < (n3 : Int) := by omega
      go_wp2_with fail
      refine (spec_l13Do x _ HRL.out HLN.out HZ.out HUP.out (by omega) (Nat.le_trans HXL.out.2.2 (by omega)) (Nat.le_trans HTL.out (by omega))).mono ?_
      rintro e w4 ⟨vv, rfl, hown, hb⟩
      replace k0 := cy hb k0
      replace k2 := cy hb k2
      replace d0 := cy hb d0
      replace d1 := cy hb d1
      replace d2 := cy hb d2
      replace d3 := cy hb d3
      have hz4 : ∀ {A' : Option Addr} {c' : Nat}, vv = .slice A' (doM x L).length c' → A' = none → c' = 0 := by
        intro A' c' e1 e2
        rcases hown.2 with ⟨e3, _⟩ | ⟨g, cp, cur, e3, _⟩
        · rw [e1] at e3; simp only [Value.slice.injEq] at e3; exact e3.2.2
        · rw [e1] at e3; simp only [Value.slice.injEq] at e3; rw [e2] at e3; cases e3.1
      obtain ⟨A', c', rfl, y1, y2⟩ := own_shape hown
      have HZ4 : Hid (A' = none → c' = 0) := hz4 rfl
      have HR4 : Hid (FiRow w4 A' (doM x L)) := RowAt.of_own fiL_len hown rfl
      have HB4 : Hid (Below w2.heap.size w2 w4) := bchain HB.out hb
      obtain ⟨mn, HMN⟩ : ∃ mn, Hid ((doM x L).length = mn) := ⟨_, rfl⟩
      rw [HMN.out]
      obtain ⟨ff, HFF⟩ : ∃ ff, Hid (findB x L = ff) := ⟨_, rfl⟩
      rw [HFF.out]
      clear hb hown y1 y2 hz4
      cases ff
      · have HNO : Hid (doC x L ≠ 0) := doC_no (Or.inr (Or.inl HFF.out))
        go_wp2_with fail
        go_ret
        refine ⟨ret_bool ?_, HB2.out.trans (HB4.out.mono HB2.out.size)⟩
        rw [HE.out, runO_stop HRN.out HX.out HNO.out]
      have HDM : Hid (doM x L = doL x L) := by show _ = _; rw [doM, HFF.out]; rfl
      go_wp2_with fail
      refine (spec_l13Form x _ (dpOk_of HXL.out)).mono ?_
      rintro e w5 ⟨rfl, hb⟩
      replace k0 := cy hb k0
      replace k2 := cy hb k2
      have HR5 : Hid (FiRow w5 A' (doM x L)) := HR4.out.below hb
      have HB5 : Hid (Below w2.heap.size w2 w5) := bchain HB4.out hb
      obtain ⟨fo, HFO⟩ : ∃ fo, Hid (formB x = fo) := ⟨_, rfl⟩
      rw [HFO.out]
      clear hb d0 d1 d2 d3
      cases fo
      · have HNO : Hid (doC x L ≠ 0) := doC_no (Or.inl HFO.out)
        go_wp2_with fail
        go_ret
        refine ⟨ret_bool ?_, HB2.out.trans (HB5.out.mono HB2.out.size)⟩
        rw [HE.out, runO_stop HRN.out HX.out HNO.out]
      have HFE : Hid (filesB (doM x L) = fitB (doL x L)) := by show _ = _; rw [HDM.out]; exact files_do HFL.out HFO.out
      have hmn : mn ≤ 61 := by
        have h1 := len_do x L
        rw [← HDM.out, HMN.out, HLN.out] at h1
        omega
      have HTM : Hid (totL (doM x L) ≤ 1099511627776) := by
        have h1 := totL_do x L
        rw [← HDM.out] at h1
        have h2 := HXL.out.2.2
        have h3 := HTL.out
        show _ ≤ _
        omega
      have HNS : Hid (∀ y ∈ doM x L, y.n.size ≤ maxLen) := by
        show ∀ y ∈ doM x L, _
        rw [HDM.out]
        exact names_do (P := fun s => s.size ≤ maxLen) (fun y hy => name_max (HNM.out y hy)) (name_max (form_name HFO.out).1) (fun e => name_max ((form_name HFO.out).2 e))
      go_wp2_with fail
      refine (spec_l13Files _ HR5.out HMN.out HNS.out HTM.out (by omega)).mono ?_
      rintro e w6 ⟨rfl, hb⟩
      have HR6 : Hid (FiRow w6 A' (doM x L)) := HR5.out.below hb
      have HB6 : Hid (Below w2.heap.size w2 w6) := bchain HB5.out hb
      obtain ⟨ft, HFT⟩ : ∃ ft, Hid (filesB (doM x L) = ft) := ⟨_, rfl⟩
      rw [HFT.out]
      clear hb k0 k2
      cases ft
      · have HNO : Hid (doC x L ≠ 0) := doC_no (Or.inr (Or.inr (by rw [← HFE.out]; exact HFT.out)))
        go_wp2_with fail
        go_ret
        refine ⟨ret_bool ?_, HB2.out.trans (HB6.out.mono HB2.out.size)⟩
        rw [HE.out, runO_stop HRN.out HX.out HNO.out]
      · have HYE : Hid (doC x L = 0) := doC_of HFO.out HFF.out (by rw [← HFE.out]; exact HFT.out)
        go_wp2_with fail
        go_roundw
        case rel => exact ⟨t + 1, doM x L, A', c', by omega, by go_num, by rw [HMN.out], HR6.out, HZ4.out, HFT.out, by rw [HDM.out]; exact runO_take HRN.out HX.out HYE.out, HB6.out⟩
        case measure => simp [intOf]; omega
    · have h1 : ¬ (t : Int) < (n3 : Int) := by omega
      obtain rfl : t = n3 := by omega
      have HRA : Hid (runO d.ops d.safe = some L) := by
        have := HRN.out
        rwa [List.take_of_length_le (by rw [HN3.out]; exact Nat.le_refl _)] at this
      have HE2 : Hid (diskB d = sameB L d.live) := by show _ = _; rw [HE.out, HRA.out]
      go_wp2_with (first
        | (go_at_call 49; refine (spec_l13Same _ HRL.out (HR1.out.below HBW.out) HLN.out HN1.out).mono ?_; rintro e w4 ⟨rfl, hb⟩; have HB4 : Hid (Below w.heap.size w w4) := bchain HBW.out hb; clear hb))
      go_ret
      exact ⟨ret_bool HE2.out.symm, HB4.out⟩
end Go.Proofs.Ytanjlpgdmnapdaa
