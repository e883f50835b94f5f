import Derived.Test.YtanjlpgdmnapdaaLdA
namespace Go.Proofs.Ytanjlpgdmnapdaa
open Go.RowKit Go.Maps
set_option linter.unusedSimpArgs false
set_option linter.unusedVariables false

/-- The rows of the files lie apart. -/
def ApV (v : Value) : Prop := match v with | .agg a => (a[0]?.getD (Value.bool false)).ownBlock = none ∨ (a[0]?.getD (Value.bool false)).ownBlock ≠ (a[1]?.getD (Value.bool false)).ownBlock | _ => True
set_option maxHeartbeats 1000000 in
theorem step_copy5_fi {W : World} {ops : Array Oper} {o : Oper} {a : Act} {K : Act → World → Prop} {Q : Exit → Act → World → Prop} {E : Prop} (hgd : o.guard = none) (s x : Operand) (ho : o.op = .call { callee := .builtin .append, args := #[s, x], argTypes := #[24, 24] }) (B g : Nat) (hB : B ≤ g) (hb : W.heap[g]? = some (.cells #[] 75 (0, 0))) (hs : a.eval s = .slice (some ⟨g, 0, none⟩) 0 0)
    {A : Option Addr} {n c : Nat} {L : List FI} (hx : a.eval x = .slice A n c) (hL : L.length = n) (h0 : A = none → c = 0) (hR : FiRow W A L) (hn : n ≤ 1073741824)
    (h : ∀ A' c' w', w'.ownsRow B 75 2 (.slice A' n c') n (flat fiL L) → (0 < n → w'.ownsRow W.heap.size 75 2 (.slice A' n c') n (flat fiL L)) → Below W.heap.size W w' → K (a.put o.dst (.slice A' n c')) w') :
    if Region.wanted o (yielded ops a.tmps) = true then Oper.wp Try.prog o a W K Q else E := by
  have hw : Region.wanted o (yielded ops a.tmps) = true := by simp [Region.wanted, hgd]
  rw [if_pos hw]
  have hgl : g < W.heap.size := (Array.getElem?_eq_some_iff.1 hb).1
  have hown : W.ownsRow B 75 2 (.slice (some ⟨g, 0, none⟩) 0 0) 0 [] := ⟨by simp, Or.inr ⟨g, 0, #[], rfl, hB, hb, Nat.le_refl _, Nat.zero_le _, by simp, by simp⟩⟩
  obtain ⟨i0, hi0, hz0, hz1, hz2⟩ := info_parts infoFi
  subst hL
  by_cases hn0 : L = []
  · subst hn0
    cases A with
    | none =>
      have hk := h0 rfl
      subst hk
      have hrun := run_append_owned_none (P := Try.prog) (w := W) B 24 o.type 75 i0 2 Try.underlying24 hi0 _ 0 [] hown
      have hfin := h _ _ W hown (fun h9 => absurd h9 (by simp)) (Below.refl _ _)
      unfold Oper.wp
      simp [execOp, ho, resolve, invoke, builtin, hs, hx, hrun, Result.andThen]
      exact hfin
    | some ad =>
      have hrun := run_append_room_src (P := Try.prog) W 24 24 o.type 75 i0 Try.underlying24 hi0 g 0 0 0 (.slice (some ad) 0 c) 0 [] (Src.ofSlice W Try.underlying24 ad 0 c [] (by simp) (fun j u hj => by simp at hj) (fun u hu => by simp at hu)) (Nat.le_refl _) (fun j hj => by simp at hj) (fun j hj => by simp at hj)
      have hfin := h _ _ W hown (fun h9 => absurd h9 (by simp)) (Below.refl _ _)
      have hx' : a.eval x = .slice (some ad) 0 c := hx
      unfold Oper.wp
      simp [execOp, ho, resolve, invoke, builtin, hs, hx', hrun, Result.andThen]
      exact hfin
  · obtain ⟨y, ys, rfl⟩ := List.exists_cons_of_ne_nil hn0
    have hpos : 0 < (y :: ys).length := by simp
    obtain ⟨b, o', e1, _⟩ := hR.2 0 y (by simp)
    subst e1
    have hnews := fi_cells hR
    obtain ⟨v', w', hr, h2, h3, h4⟩ := run_append_own (P := Try.prog) W W.heap.size 24 o.type 75 i0 (.agg #[.string ⟨#[]⟩, .string ⟨#[]⟩]) 2 32 Try.underlying24 hi0 hz0 hz1 hz2 rfl (by decide) (.slice none 0 0) 0 [] ⟨by simp, Or.inl ⟨rfl, rfl⟩⟩ ⟨b, o', none⟩ (y :: ys).length c (flat fiL (y :: ys)) (flat_len fiL_len _) hnews (flat_one_fi _) (by unfold maxLen; omega) (by omega) (by omega)
    have hsrc : Src Try.prog i0.size 24 (.slice (some ⟨b, o', none⟩) (y :: ys).length c) (y :: ys).length (flat fiL (y :: ys)) W := by
      rw [hz1]
      exact Src.ofSlice W Try.underlying24 ⟨b, o', none⟩ _ c _ (flat_len fiL_len _) hnews (flat_one_fi _)
    have g1 := run_append_grow_src (P := Try.prog) W 24 24 o.type 75 i0 (.agg #[.string ⟨#[]⟩, .string ⟨#[]⟩]) Try.underlying24 hi0 hz0 (some ⟨g, 0, none⟩) 0 0 [] (by have hld := run_loadCells_list (P := Try.prog) W.drew ⟨g, 0, none⟩ [] (fun j x hj => by simp at hj); simpa [Builtin.firstCells] using hld) _ _ _ hsrc (by omega) (by omega) (growslice_fits (by omega) (by rw [hz2]; omega))
    have g2 := run_append_grow_src (P := Try.prog) W 24 24 o.type 75 i0 (.agg #[.string ⟨#[]⟩, .string ⟨#[]⟩]) Try.underlying24 hi0 hz0 none 0 0 [] (by simp [Builtin.firstCells]) _ _ _ hsrc (by omega) (by omega) (growslice_fits (by omega) (by rw [hz2]; omega))
    have hrun := g1.trans (g2.symm.trans hr)
    rw [Nat.zero_add, List.nil_append] at h2
    obtain ⟨A', c', rfl, _, _⟩ := own_shape h2
    have hfin := h A' c' w' (own_mono h2 (by omega)) (fun _ => h2) ((Below.refl _ _).grown h3 (Nat.le_refl _) (fun q hq => by cases hq))
    unfold Oper.wp execOp
    simp only [ho, resolve, invoke, builtin, Sem.run_bind, Sem.run_pure, Result.andThen_ok, List.map_toArray, List.map_cons, List.map_nil, hs, hx, hrun]
    exact hfin
set_option maxRecDepth 100000 in
set_option maxHeartbeats 8000000 in
theorem spec_l13ActP {v : Value} {d : DK} (x : DP) (w : World) (h : DkRow w v d) (hl : DkLil d) (hx : dpLil x) (hd : diskB d = true) :
    Calls Try.prog 58 #[v, .agg #[.int .i64 x.k, .string x.n, .string x.t, .string x.d]] w fun e w' => ∃ v', e = .returned (.tuple #[v', .int .i64 (doK d x)]) ∧ DkHas w' w.heap.size v' (acD d x) ∧ Below w.heap.size w w' ∧ (doK d x = 0 → ApV v') := by
  have HR : Hid (DkRow w v d) := h
  have HL : Hid (DkLil d) := hl
  have HX : Hid (dpLil x) := hx
  obtain ⟨q1, q2, q3⟩ := disk_parts hd
  obtain ⟨l60, lup, lnm, ltt⟩ := files_parts q1
  have HFL : Hid (filesB d.live = true) := q1
  have HUP : Hid (Up fiK d.live) := lup
  have HNM : Hid (∀ y ∈ d.live, nameB y.n = true) := lnm
  have HTL : Hid (totL d.live ≤ 200000) := ltt
  obtain ⟨A1, c1, A2, c2, A3, c3, rfl, r1, r2, r3, z1, z2, z3⟩ := h
  have HR1 : Hid (FiRow w A1 d.live) := r1
  have HZ1 : Hid (A1 = none → c1 = 0) := z1
  obtain ⟨n1, HN1⟩ : ∃ n1, Hid (d.live.length = n1) := ⟨_, rfl⟩
  obtain ⟨n2, HN2⟩ : ∃ n2, Hid (d.safe.length = n2) := ⟨_, rfl⟩
  obtain ⟨n3, HN3⟩ : ∃ n3, Hid (d.ops.length = n3) := ⟨_, rfl⟩
  rw [HN1.out] at l60
  rw [HN3.out] at q3
  rw [HN1.out, HN2.out, HN3.out] at HR ⊢
  clear r1 r2 r3 z1 z2 z3 hl hx hd q1 lup lnm ltt
  obtain ⟨fo, HFO⟩ : ∃ fo, Hid (formB x = fo) := ⟨_, rfl⟩
  go_enter Try.func58, Try.ntmps58
  go_wp2_with fail
  refine (spec_l13Form x _ (dpOk_of HX.out)).mono ?_
  rintro e w1 ⟨rfl, hb⟩
  have k0 := cy hb (b := w.heap.size) (o := 0) (x := .slice A1 n1 c1) (by go_simp)
  have k1 := cy hb (b := w.heap.size) (o := 1) (x := .slice A2 n2 c2) (by go_simp)
  have k2 := cy hb (b := w.heap.size) (o := 2) (x := .slice A3 n3 c3) (by go_simp)
  have x0 := cy hb (b := w.heap.size + 1) (o := 0) (x := .int .i64 x.k) (by go_simp)
  have x1 := cy hb (b := w.heap.size + 1) (o := 1) (x := .string x.n) (by go_simp)
  have x2 := cy hb (b := w.heap.size + 1) (o := 2) (x := .string x.t) (by go_simp)
  have x3 := cy hb (b := w.heap.size + 1) (o := 3) (x := .string x.d) (by go_simp)
  have p0 := cy hb (b := w.heap.size + 1 + 1) (o := 0) (x := .slice none 0 0) (by go_simp)
  have p1 := cy hb (b := w.heap.size + 1 + 1) (o := 1) (x := .slice none 0 0) (by go_simp)
  have p2 := cy hb (b := w.heap.size + 1 + 1) (o := 2) (x := .slice none 0 0) (by go_simp)
  have pf : ∀ o, w1.frozen? ⟨w.heap.size + 1 + 1, o, none⟩ = false := fun o => by
    rw [hb.frozen (p := ⟨w.heap.size + 1 + 1, o, none⟩) (by simp)]
    go_simp
  have B1 : Hid (Below w.heap.size w w1) := Below.trans (by go_grown) (hb.mono (by simp; omega))
  have s1 : w.heap.size + 3 ≤ w1.heap.size := by simpa using hb.size
  clear hb
  rw [HFO.out]
  cases fo
  · have HK : Hid (doK d x = 2) := doK_form HFO.out
    have HA : Hid (acD d x = d) := acD_no (by rw [HK.out]; decide)
    go_wp2_with fail
    refine (spec_l13Copy _ (HR.out.below B1.out) HL.out).mono ?_
    rintro e w2 ⟨v1, v2, v3, rfl, ⟨o1, o2, o3⟩, hb⟩
    replace p0 := cy hb p0
    replace p1 := cy hb p1
    replace p2 := cy hb p2
    replace pf : ∀ o, w2.frozen? ⟨w.heap.size + 1 + 1, o, none⟩ = false := fun o => by
      rw [hb.frozen (p := ⟨w.heap.size + 1 + 1, o, none⟩) (by show w.heap.size + 1 + 1 < w1.heap.size; omega)]
      exact pf o
    have m_w2 : w.heap.size + 1 + 1 < w2.heap.size := World.block_lt_of_cell? w2 ⟨w.heap.size + 1 + 1, 0, none⟩ p0
    obtain ⟨D1, b1, rfl, y1, y2⟩ := own_shape o1
    obtain ⟨D2, b2, rfl, y3, y4⟩ := own_shape o2
    obtain ⟨D3, b3, rfl, y5, y6⟩ := own_shape o3
    have HH : Hid (DkHas w2 (w.heap.size + 3) (.agg #[.slice D1 d.live.length b1, .slice D2 d.safe.length b2, .slice D3 d.ops.length b3]) d) := ⟨_, _, _, rfl, own_mono o1 (by omega), own_mono o2 (by omega), own_mono o3 (by omega)⟩
    have BB : Hid (Below w.heap.size w w2) := bchain B1.out hb
    clear hb o1 o2 o3 y1 y2 y3 y4 y5 y6
    go_wp2_with fail
    refine bodyPost_ret (v := .tuple #[.agg #[.slice D1 d.live.length b1, .slice D2 d.safe.length b2, .slice D3 d.ops.length b3], .int .i64 2]) ?_ rfl ⟨_, by rw [HK.out], ?_, ?_, fun h9 => by rw [HK.out] at h9; cases h9⟩
    · simp (maxDischargeDepth := 9) [results, Try.results58, go_sem, *]
    · rw [HA.out]; exact (((HH.out.set (by omega) _ _).set (by omega) _ _).set (by omega) _ _).mono (by omega)
    · exact ((BB.out.setCell (by show w.heap.size ≤ w.heap.size + 1 + 1; omega) _).setCell (by show w.heap.size ≤ w.heap.size + 1 + 1; omega) _).setCell (by show w.heap.size ≤ w.heap.size + 1 + 1; omega) _
  go_wp2_with fail
  refine (spec_l13Do x _ (HR1.out.below B1.out) HN1.out HZ1.out HUP.out (by omega) (Nat.le_trans HX.out.2.2 (by omega)) (Nat.le_trans HTL.out (by omega))).mono ?_
  rintro e w2 ⟨vv, rfl, hown, hb⟩
  replace k0 := cy hb k0
  replace k1 := cy hb k1
  replace k2 := cy hb k2
  replace x0 := cy hb x0
  replace x1 := cy hb x1
  replace x2 := cy hb x2
  replace x3 := cy hb x3
  replace p0 := cy hb p0
  replace p1 := cy hb p1
  replace p2 := cy hb p2
  replace pf : ∀ o, w2.frozen? ⟨w.heap.size + 1 + 1, o, none⟩ = false := fun o => by
    rw [hb.frozen (p := ⟨w.heap.size + 1 + 1, o, none⟩) (by show w.heap.size + 1 + 1 < w1.heap.size; omega)]
    exact pf o
  have m_w2 : w.heap.size + 1 + 1 < w2.heap.size := World.block_lt_of_cell? w2 ⟨w.heap.size + 1 + 1, 0, none⟩ p0
  have B2 : Hid (Below w.heap.size w w2) := bchain B1.out hb
  have ON : Hid (w2.ownsRow w1.heap.size 75 2 vv (doM x d.live).length (flat fiL (doM x d.live))) := hown
  obtain ⟨E1, f1, rfl, y1, y2⟩ := own_shape hown
  have RN : Hid (FiRow w2 E1 (doM x d.live)) := RowAt.of_own fiL_len hown rfl
  obtain ⟨mn, HMN⟩ : ∃ mn, Hid ((doM x d.live).length = mn) := ⟨_, rfl⟩
  obtain ⟨ff, HFF⟩ : ∃ ff, Hid (findB x d.live = ff) := ⟨_, rfl⟩
  clear hb hown y1 y2
  rw [HMN.out, HFF.out]
  cases ff
  · have HK : Hid (doK d x = 3) := doK_find HFO.out HFF.out
    have HA : Hid (acD d x = d) := acD_no (by rw [HK.out]; decide)
    go_wp2_with fail
    refine (spec_l13Copy _ (HR.out.below B2.out) HL.out).mono ?_
    rintro e w3 ⟨v1, v2, v3, rfl, ⟨o1, o2, o3⟩, hb⟩
    replace p0 := cy hb p0
    replace p1 := cy hb p1
    replace p2 := cy hb p2
    replace pf : ∀ o, w3.frozen? ⟨w.heap.size + 1 + 1, o, none⟩ = false := fun o => by
      rw [hb.frozen (p := ⟨w.heap.size + 1 + 1, o, none⟩) (by show w.heap.size + 1 + 1 < w2.heap.size; omega)]
      exact pf o
    have m_w3 : w.heap.size + 1 + 1 < w3.heap.size := World.block_lt_of_cell? w3 ⟨w.heap.size + 1 + 1, 0, none⟩ p0
    obtain ⟨D1, b1, rfl, y1, y2⟩ := own_shape o1
    obtain ⟨D2, b2, rfl, y3, y4⟩ := own_shape o2
    obtain ⟨D3, b3, rfl, y5, y6⟩ := own_shape o3
    have HH : Hid (DkHas w3 (w.heap.size + 3) (.agg #[.slice D1 d.live.length b1, .slice D2 d.safe.length b2, .slice D3 d.ops.length b3]) d) := ⟨_, _, _, rfl, own_mono o1 (by omega), own_mono o2 (by omega), own_mono o3 (by omega)⟩
    have BB : Hid (Below w.heap.size w w3) := bchain B2.out hb
    clear hb o1 o2 o3 y1 y2 y3 y4 y5 y6
    go_wp2_with fail
    refine bodyPost_ret (v := .tuple #[.agg #[.slice D1 d.live.length b1, .slice D2 d.safe.length b2, .slice D3 d.ops.length b3], .int .i64 3]) ?_ rfl ⟨_, by rw [HK.out], ?_, ?_, fun h9 => by rw [HK.out] at h9; cases h9⟩
    · simp (maxDischargeDepth := 9) [results, Try.results58, go_sem, *]
    · rw [HA.out]; exact (((HH.out.set (by omega) _ _).set (by omega) _ _).set (by omega) _ _).mono (by omega)
    · exact ((BB.out.setCell (by show w.heap.size ≤ w.heap.size + 1 + 1; omega) _).setCell (by show w.heap.size ≤ w.heap.size + 1 + 1; omega) _).setCell (by show w.heap.size ≤ w.heap.size + 1 + 1; omega) _
  have HDM : Hid (doM x d.live = doL x d.live) := by show _ = _; rw [doM, HFF.out]; rfl
  by_cases h200 : (n3 : Int) = 200
  · have HK : Hid (doK d x = 4) := doK_full HFO.out HFF.out (Or.inl (by rw [HN3.out]; omega))
    have HA : Hid (acD d x = d) := acD_no (by rw [HK.out]; decide)
    have h201 : ((n3 : Int) == 200) = true := by simpa using h200
    go_wp2_with fail
    refine (spec_l13Copy _ (HR.out.below B2.out) HL.out).mono ?_
    rintro e w3 ⟨v1, v2, v3, rfl, ⟨o1, o2, o3⟩, hb⟩
    replace p0 := cy hb p0
    replace p1 := cy hb p1
    replace p2 := cy hb p2
    replace pf : ∀ o, w3.frozen? ⟨w.heap.size + 1 + 1, o, none⟩ = false := fun o => by
      rw [hb.frozen (p := ⟨w.heap.size + 1 + 1, o, none⟩) (by show w.heap.size + 1 + 1 < w2.heap.size; omega)]
      exact pf o
    have m_w3 : w.heap.size + 1 + 1 < w3.heap.size := World.block_lt_of_cell? w3 ⟨w.heap.size + 1 + 1, 0, none⟩ p0
    obtain ⟨D1, b1, rfl, y1, y2⟩ := own_shape o1
    obtain ⟨D2, b2, rfl, y3, y4⟩ := own_shape o2
    obtain ⟨D3, b3, rfl, y5, y6⟩ := own_shape o3
    have HH : Hid (DkHas w3 (w.heap.size + 3) (.agg #[.slice D1 d.live.length b1, .slice D2 d.safe.length b2, .slice D3 d.ops.length b3]) d) := ⟨_, _, _, rfl, own_mono o1 (by omega), own_mono o2 (by omega), own_mono o3 (by omega)⟩
    have BB : Hid (Below w.heap.size w w3) := bchain B2.out hb
    clear hb o1 o2 o3 y1 y2 y3 y4 y5 y6
    go_wp2_with fail
    refine bodyPost_ret (v := .tuple #[.agg #[.slice D1 d.live.length b1, .slice D2 d.safe.length b2, .slice D3 d.ops.length b3], .int .i64 4]) ?_ rfl ⟨_, by rw [HK.out], ?_, ?_, fun h9 => by rw [HK.out] at h9; cases h9⟩
    · simp (maxDischargeDepth := 9) [results, Try.results58, go_sem, *]
    · rw [HA.out]; exact (((HH.out.set (by omega) _ _).set (by omega) _ _).set (by omega) _ _).mono (by omega)
    · exact ((BB.out.setCell (by show w.heap.size ≤ w.heap.size + 1 + 1; omega) _).setCell (by show w.heap.size ≤ w.heap.size + 1 + 1; omega) _).setCell (by show w.heap.size ≤ w.heap.size + 1 + 1; omega) _
  have h201 : ((n3 : Int) == 200) = false := by simpa using h200
  have HFE : Hid (filesB (doM x d.live) = fitB (doL x d.live)) := by show _ = _; rw [HDM.out]; exact files_do HFL.out HFO.out
  have hmn : mn ≤ 61 := by
    have h1 := len_do x d.live
    rw [← HDM.out, HMN.out, HN1.out] at h1
    omega
  have HTM : Hid (totL (doM x d.live) ≤ 1099511627776) := by
    have h1 := totL_do x d.live
    rw [← HDM.out] at h1
    have h2 := HX.out.2.2
    have h3 := HTL.out
    show _ ≤ _
    omega
  have HNS : Hid (∀ y ∈ doM x d.live, y.n.size ≤ maxLen) := by
    show ∀ y ∈ doM x d.live, _
    rw [HDM.out]
    exact names_do (P := fun s => s.size ≤ maxLen) (fun y hy => name_max (HNM.out y hy)) (name_max (form_name HFO.out).1) (fun e => name_max ((form_name HFO.out).2 e))
  go_wp2_with fail
  refine (spec_l13Files _ RN.out HMN.out HNS.out HTM.out (by omega)).mono ?_
  rintro e w3 ⟨rfl, hb⟩
  replace k0 := cy hb k0
  replace k1 := cy hb k1
  replace k2 := cy hb k2
  replace x0 := cy hb x0
  replace x1 := cy hb x1
  replace x2 := cy hb x2
  replace x3 := cy hb x3
  replace p0 := cy hb p0
  replace p1 := cy hb p1
  replace p2 := cy hb p2
  replace pf : ∀ o, w3.frozen? ⟨w.heap.size + 1 + 1, o, none⟩ = false := fun o => by
    rw [hb.frozen (p := ⟨w.heap.size + 1 + 1, o, none⟩) (by show w.heap.size + 1 + 1 < w2.heap.size; omega)]
    exact pf o
  have m_w3 : w.heap.size + 1 + 1 < w3.heap.size := World.block_lt_of_cell? w3 ⟨w.heap.size + 1 + 1, 0, none⟩ p0
  have B3 : Hid (Below w.heap.size w w3) := bchain B2.out hb
  have ON3 : Hid (w3.ownsRow w1.heap.size 75 2 (.slice E1 (doM x d.live).length f1) (doM x d.live).length (flat fiL (doM x d.live))) := own_below ON.out hb
  obtain ⟨ft, HFT⟩ : ∃ ft, Hid (filesB (doM x d.live) = ft) := ⟨_, rfl⟩
  clear hb
  rw [HFT.out]
  cases ft
  · have HK : Hid (doK d x = 4) := doK_full HFO.out HFF.out (Or.inr (by rw [← HFE.out]; exact HFT.out))
    have HA : Hid (acD d x = d) := acD_no (by rw [HK.out]; decide)
    go_wp2_with fail
    refine (spec_l13Copy _ (HR.out.below B3.out) HL.out).mono ?_
    rintro e w4 ⟨v1, v2, v3, rfl, ⟨o1, o2, o3⟩, hb⟩
    replace p0 := cy hb p0
    replace p1 := cy hb p1
    replace p2 := cy hb p2
    replace pf : ∀ o, w4.frozen? ⟨w.heap.size + 1 + 1, o, none⟩ = false := fun o => by
      rw [hb.frozen (p := ⟨w.heap.size + 1 + 1, o, none⟩) (by show w.heap.size + 1 + 1 < w3.heap.size; omega)]
      exact pf o
    have m_w4 : w.heap.size + 1 + 1 < w4.heap.size := World.block_lt_of_cell? w4 ⟨w.heap.size + 1 + 1, 0, none⟩ p0
    obtain ⟨D1, b1, rfl, y1, y2⟩ := own_shape o1
    obtain ⟨D2, b2, rfl, y3, y4⟩ := own_shape o2
    obtain ⟨D3, b3, rfl, y5, y6⟩ := own_shape o3
    have HH : Hid (DkHas w4 (w.heap.size + 3) (.agg #[.slice D1 d.live.length b1, .slice D2 d.safe.length b2, .slice D3 d.ops.length b3]) d) := ⟨_, _, _, rfl, own_mono o1 (by omega), own_mono o2 (by omega), own_mono o3 (by omega)⟩
    have BB : Hid (Below w.heap.size w w4) := bchain B3.out hb
    clear hb o1 o2 o3 y1 y2 y3 y4 y5 y6
    go_wp2_with fail
    refine bodyPost_ret (v := .tuple #[.agg #[.slice D1 d.live.length b1, .slice D2 d.safe.length b2, .slice D3 d.ops.length b3], .int .i64 4]) ?_ rfl ⟨_, by rw [HK.out], ?_, ?_, fun h9 => by rw [HK.out] at h9; cases h9⟩
    · simp (maxDischargeDepth := 9) [results, Try.results58, go_sem, *]
    · rw [HA.out]; exact (((HH.out.set (by omega) _ _).set (by omega) _ _).set (by omega) _ _).mono (by omega)
    · exact ((BB.out.setCell (by show w.heap.size ≤ w.heap.size + 1 + 1; omega) _).setCell (by show w.heap.size ≤ w.heap.size + 1 + 1; omega) _).setCell (by show w.heap.size ≤ w.heap.size + 1 + 1; omega) _
  have HK : Hid (doK d x = 0) := doK_done HFO.out HFF.out (by rw [HN3.out]; omega) (by rw [← HFE.out]; exact HFT.out)
  have HA : Hid (acD d x = ⟨doL x d.live, d.safe, d.ops ++ [x]⟩) := acD_yes HK.out
  go_wp2_with fail
  refine (spec_l13Copy _ (HR.out.below B3.out) HL.out).mono ?_
  rintro e w4 ⟨v1, v2, v3, rfl, ⟨o1, o2, o3⟩, hb⟩
  replace x0 := cy hb x0
  replace x1 := cy hb x1
  replace x2 := cy hb x2
  replace x3 := cy hb x3
  replace p0 := cy hb p0
  replace p1 := cy hb p1
  replace p2 := cy hb p2
  replace pf : ∀ o, w4.frozen? ⟨w.heap.size + 1 + 1, o, none⟩ = false := fun o => by
    rw [hb.frozen (p := ⟨w.heap.size + 1 + 1, o, none⟩) (by show w.heap.size + 1 + 1 < w3.heap.size; omega)]
    exact pf o
  have m_w4 : w.heap.size + 1 + 1 < w4.heap.size := World.block_lt_of_cell? w4 ⟨w.heap.size + 1 + 1, 0, none⟩ p0
  obtain ⟨D1, b1, rfl, y1, y2⟩ := own_shape o1
  obtain ⟨D2, b2, rfl, y3, y4⟩ := own_shape o2
  obtain ⟨D3, b3, rfl, y5, y6⟩ := own_shape o3
  have B4 : Hid (Below w.heap.size w w4) := bchain B3.out hb
  have P2 : Hid (w4.ownsRow (w.heap.size + 3) 75 2 (.slice D2 d.safe.length b2) d.safe.length (flat fiL d.safe)) := own_mono o2 (by omega)
  have P3 : Hid (w4.ownsRow (w.heap.size + 3) 36 4 (.slice D3 d.ops.length b3) d.ops.length (flat dpL d.ops)) := own_mono o3 (by omega)
  have HAP : Hid ((Value.slice E1 mn f1).ownBlock = none ∨ (Value.slice E1 mn f1).ownBlock ≠ (Value.slice D2 d.safe.length b2).ownBlock) := by have h9 := own_ne ON3.out o2 (Nat.le_add_right _ 2); rw [HMN.out] at h9; exact h9
  have ON4 : Hid (w4.ownsRow w1.heap.size 75 2 (.slice E1 (doM x d.live).length f1) (doM x d.live).length (flat fiL (doM x d.live))) := own_below ON3.out hb
  clear hb o1 o2 o3 y1 y2 y3 y4 y5 y6
  rw [HMN.out] at ON4
  have m4 : w.heap.size < w4.heap.size := by omega
  have m5 : w.heap.size + 1 < w4.heap.size := by omega
  have mB : w.heap.size + 3 ≤ w4.heap.size := by omega
  have mo : d.ops.length ≤ 1099511627776 := by rw [HN3.out]; omega
  go_wp2_with (first
    | (at_builtin; (refine wpList_app_dp rfl _ _ rfl (w.heap.size + 3) (.slice D3 d.ops.length b3) d.ops.length (flat dpL d.ops) rfl (P3.out.alloc _) x (by show Value.slice (some ⟨w4.heap.size + 1, 0, none⟩) 1 1 = _; simp) mo (by simp; omega) ?_))
    | go_in)
  intro v' w5 hown' hg
  have hlt : ∀ p, some p = (Value.slice D3 d.ops.length b3).ownBlock → w.heap.size + 3 ≤ p ∧ p < w4.heap.size := fun p e => P3.out.lt p e.symm
  have mm : w.heap.size + 1 + 1 < w4.heap.size + 1 + 1 := by omega
  have q0 : w5.cell? ⟨w4.heap.size, 0, none⟩ = some (.slice E1 mn f1) := hg.cell (by go_simp) (fun e => by have := hlt _ e; simp only at this; omega)
  have q1 : w5.cell? ⟨w4.heap.size, 1, none⟩ = some (.slice D2 d.safe.length b2) := hg.cell (by go_simp) (fun e => by have := hlt _ e; simp only at this; omega)
  have q2 : w5.cell? ⟨w4.heap.size, 2, none⟩ = some (.slice D3 d.ops.length b3) := hg.cell (by go_simp) (fun e => by have := hlt _ e; simp only at this; omega)
  have qf : ∀ o, w5.frozen? ⟨w4.heap.size, o, none⟩ = false := fun o => by
    rw [hg.frozen_far ⟨w4.heap.size, o, none⟩ (by simp; omega) (fun e => by have := hlt _ e; simp only at this; omega)]
    go_simp
  replace p0 : w5.cell? ⟨w.heap.size + 1 + 1, 0, none⟩ = some (.slice none 0 0) := hg.cell (by go_simp) (fun e => by have := hlt _ e; simp only at this; omega)
  replace p1 : w5.cell? ⟨w.heap.size + 1 + 1, 1, none⟩ = some (.slice none 0 0) := hg.cell (by go_simp) (fun e => by have := hlt _ e; simp only at this; omega)
  replace p2 : w5.cell? ⟨w.heap.size + 1 + 1, 2, none⟩ = some (.slice none 0 0) := hg.cell (by go_simp) (fun e => by have := hlt _ e; simp only at this; omega)
  replace pf : ∀ o, w5.frozen? ⟨w.heap.size + 1 + 1, o, none⟩ = false := fun o => by
    rw [hg.frozen_far ⟨w.heap.size + 1 + 1, o, none⟩ (by simp; omega) (fun e => by have := hlt _ e; simp only at this; omega)]
    go_simp
  have m_w5 : w.heap.size + 1 + 1 < w5.heap.size := World.block_lt_of_cell? w5 ⟨w.heap.size + 1 + 1, 0, none⟩ p0
  have m_q5 : w4.heap.size < w5.heap.size := World.block_lt_of_cell? w5 ⟨w4.heap.size, 0, none⟩ q0
  have qne : w4.heap.size ≠ w.heap.size + 1 + 1 := by omega
  have R1 : Hid (w5.ownsRow w1.heap.size 75 2 (.slice E1 mn f1) mn (flat fiL (doM x d.live))) := ((ON4.out.alloc _).alloc _).kept hg (own_ne_tyG ON4.out P3.out (by decide))
  have R2 : Hid (w5.ownsRow (w.heap.size + 3) 75 2 (.slice D2 d.safe.length b2) d.safe.length (flat fiL d.safe)) := ((P2.out.alloc _).alloc _).kept hg (own_ne_tyG P2.out P3.out (by decide))
  obtain ⟨F3, g3, rfl, y1, y2⟩ := own_shape hown'
  have R3 : Hid (w5.ownsRow (w.heap.size + 3) 36 4 (.slice F3 (d.ops.length + 1) g3) (d.ops.length + 1) (flat dpL d.ops ++ dpL x)) := hown'
  have BB : Hid (Below w.heap.size w w5) := Below.trans (Below.trans B4.out (by go_grown)) ⟨hg.os, hg.tape, hg.output, hg.size, fun q hq => hg.block q (by simp; omega) (fun e => by have := hlt _ e; omega)⟩
  have hbk := (hg.block w4.heap.size (by simp; omega) (fun e => by have := hlt _ e; omega)).trans (block_old (blk_at rfl))
  have HBK : Hid (∃ c t r, w5.heap[w4.heap.size]? = some (.cells c t r) ∧ 75 ≠ t ∧ 36 ≠ t) := ⟨_, _, _, hbk, by decide, by decide⟩
  clear hbk
  have HH : Hid (DkHas w5 (w.heap.size + 3) (.agg #[.slice E1 mn f1, .slice D2 d.safe.length b2, .slice F3 (d.ops.length + 1) g3]) ⟨doL x d.live, d.safe, d.ops ++ [x]⟩) := by
    refine ⟨_, _, _, rfl, ?_, R2.out, ?_⟩
    · show w5.ownsRow _ _ _ _ (doL x d.live).length (flat fiL (doL x d.live))
      rw [← HDM.out, HMN.out]
      exact own_mono R1.out (by omega)
    · show w5.ownsRow _ _ _ _ (d.ops ++ [x]).length (flat dpL (d.ops ++ [x]))
      rw [flat_snoc, List.length_append]
      exact R3.out
  clear hg hown' y1 y2 x0 x1 x2 x3
  go_wp2_with fail
  refine bodyPost_ret (v := .tuple #[.agg #[.slice E1 mn f1, .slice D2 d.safe.length b2, .slice F3 (d.ops.length + 1) g3], .int .i64 0]) ?_ rfl ⟨_, by rw [HK.out], ?_, ?_, ?_⟩
  · simp (maxDischargeDepth := 9) [results, Try.results58, go_sem, *]
  · rw [HA.out]
    obtain ⟨c, t, r, hb, n1, n2⟩ := HBK.out
    exact ((((HH.out.setBox hb n1 n2 _ _).set (by omega) _ _).set (by omega) _ _).set (by omega) _ _).mono (by omega)
  · exact (((BB.out.setCell (by show w.heap.size ≤ w4.heap.size; omega) _).setCell (by show w.heap.size ≤ w.heap.size + 1 + 1; omega) _).setCell (by show w.heap.size ≤ w.heap.size + 1 + 1; omega) _).setCell (by show w.heap.size ≤ w.heap.size + 1 + 1; omega) _
  · exact fun _ => HAP.out
set_option maxRecDepth 100000 in
set_option maxHeartbeats 8000000 in
theorem spec_DoP {v : Value} {d : DK} (x : DP) (w : World) (h : DkRow w v d) (hl : DkLil d) (hx : dpLil x) :
    Calls Try.prog 21 #[v, .agg #[.int .i64 x.k, .string x.n, .string x.t, .string x.d]] w fun e w' => ∃ v', e = .returned (.tuple #[v', .int .i64 (sdK d x)]) ∧ DkHas w' w.heap.size v' (sdD d x) ∧ Below w.heap.size w w' ∧ (sdK d x = 0 → ApV v') := by
  have HR : Hid (DkRow w v d) := h
  have HL : Hid (DkLil d) := hl
  have HX : Hid (dpLil x) := hx
  obtain ⟨A1, c1, A2, c2, A3, c3, rfl, r1, r2, r3, z1, z2, z3⟩ := h
  obtain ⟨n1, HN1⟩ : ∃ n1, Hid (d.live.length = n1) := ⟨_, rfl⟩
  obtain ⟨n2, HN2⟩ : ∃ n2, Hid (d.safe.length = n2) := ⟨_, rfl⟩
  obtain ⟨n3, HN3⟩ : ∃ n3, Hid (d.ops.length = n3) := ⟨_, rfl⟩
  rw [HN1.out, HN2.out, HN3.out] at HR ⊢
  clear r1 r2 r3 z1 z2 z3 hl hx
  obtain ⟨rr, HRR⟩ : ∃ rr, Hid (diskB d = rr) := ⟨_, rfl⟩
  cases rr
  · have HE : Hid (sdD d x = dk0) := by show _ = _; rw [sdD, HRR.out]; rfl
    have HK : Hid (sdK d x = 1) := by show _ = _; rw [sdK, HRR.out]; rfl
    rw [HE.out, HK.out]
    go_enter Try.func21, Try.ntmps21
    go_wp2_with fail
    refine (spec_DiskOk _ (HR.out.below (by go_grown)) HL.out).mono ?_
    rintro e w1 ⟨rfl, hb⟩
    rw [HRR.out]
    have p0 := cy hb (b := w.heap.size + 1 + 1) (o := 0) (x := .slice none 0 0) (by go_simp)
    have p1 := cy hb (b := w.heap.size + 1 + 1) (o := 1) (x := .slice none 0 0) (by go_simp)
    have p2 := cy hb (b := w.heap.size + 1 + 1) (o := 2) (x := .slice none 0 0) (by go_simp)
    have pf : ∀ o, w1.frozen? ⟨w.heap.size + 1 + 1, o, none⟩ = false := fun o => by
      rw [hb.frozen (p := ⟨w.heap.size + 1 + 1, o, none⟩) (by simp)]
      go_simp
    have HB1 : Hid (Below w.heap.size w w1) := Below.trans (by go_grown) (hb.mono (by simp; omega))
    have hz1 : w.heap.size + 1 + 1 < w1.heap.size := World.block_lt_of_cell? w1 ⟨w.heap.size + 1 + 1, 0, none⟩ p0
    clear hb
    go_wp2_with fail
    refine bodyPost_ret (v := .tuple #[.agg #[.slice none 0 0, .slice none 0 0, .slice none 0 0], .int .i64 1]) ?_ rfl ⟨_, rfl, has_dk0, ?_, fun h9 => by cases h9⟩
    · simp (maxDischargeDepth := 9) [results, Try.results21, go_sem, *]
    · exact ((HB1.out.setCell (by show w.heap.size ≤ w.heap.size + 1 + 1; omega) _).setCell (by show w.heap.size ≤ w.heap.size + 1 + 1; omega) _).setCell (by show w.heap.size ≤ w.heap.size + 1 + 1; omega) _
  · have HE : Hid (sdD d x = acD d x) := by show _ = _; rw [sdD, HRR.out]; rfl
    have HK : Hid (sdK d x = doK d x) := by show _ = _; rw [sdK, HRR.out]; rfl
    rw [HE.out, HK.out]
    go_enter Try.func21, Try.ntmps21
    go_wp2_with fail
    refine (spec_DiskOk _ (HR.out.below (by go_grown)) HL.out).mono ?_
    rintro e w1 ⟨rfl, hb⟩
    rw [HRR.out]
    have p0 := cy hb (b := w.heap.size + 1 + 1) (o := 0) (x := .slice none 0 0) (by go_simp)
    have p1 := cy hb (b := w.heap.size + 1 + 1) (o := 1) (x := .slice none 0 0) (by go_simp)
    have p2 := cy hb (b := w.heap.size + 1 + 1) (o := 2) (x := .slice none 0 0) (by go_simp)
    have pf : ∀ o, w1.frozen? ⟨w.heap.size + 1 + 1, o, none⟩ = false := fun o => by
      rw [hb.frozen (p := ⟨w.heap.size + 1 + 1, o, none⟩) (by simp)]
      go_simp
    have HB1 : Hid (Below w.heap.size w w1) := Below.trans (by go_grown) (hb.mono (by simp; omega))
    have hz1 : w.heap.size + 1 + 1 < w1.heap.size := World.block_lt_of_cell? w1 ⟨w.heap.size + 1 + 1, 0, none⟩ p0
    have k0 := cy hb (b := w.heap.size) (o := 0) (x := .slice A1 n1 c1) (by go_simp)
    have k1 := cy hb (b := w.heap.size) (o := 1) (x := .slice A2 n2 c2) (by go_simp)
    have k2 := cy hb (b := w.heap.size) (o := 2) (x := .slice A3 n3 c3) (by go_simp)
    have x0 := cy hb (b := w.heap.size + 1) (o := 0) (x := .int .i64 x.k) (by go_simp)
    have x1 := cy hb (b := w.heap.size + 1) (o := 1) (x := .string x.n) (by go_simp)
    have x2 := cy hb (b := w.heap.size + 1) (o := 2) (x := .string x.t) (by go_simp)
    have x3 := cy hb (b := w.heap.size + 1) (o := 3) (x := .string x.d) (by go_simp)
    clear hb
    have hl0 : w.heap.size < w1.heap.size := by omega
    have hl1 : w.heap.size + 1 < w1.heap.size := by omega
    go_wp2_with fail
    refine (spec_l13ActP x _ (HR.out.below HB1.out) HL.out HX.out HRR.out).mono ?_
    rintro e w2 ⟨vv, rfl, ⟨v1, v2, v3, rfl, o1, o2, o3⟩, hb, hap⟩
    have HAP : Hid (doK d x = 0 → ApV (.agg #[v1, v2, v3])) := hap
    clear hap
    replace p0 := cy hb p0
    replace p1 := cy hb p1
    replace p2 := cy hb p2
    replace pf : ∀ o, w2.frozen? ⟨w.heap.size + 1 + 1, o, none⟩ = false := fun o => by
      rw [hb.frozen (p := ⟨w.heap.size + 1 + 1, o, none⟩) (by show w.heap.size + 1 + 1 < w1.heap.size; omega)]
      exact pf o
    have m_w2 : w.heap.size + 1 + 1 < w2.heap.size := World.block_lt_of_cell? w2 ⟨w.heap.size + 1 + 1, 0, none⟩ p0
    have BB : Hid (Below w.heap.size w w2) := bchain HB1.out hb
    have HH : Hid (DkHas w2 w1.heap.size (.agg #[v1, v2, v3]) (acD d x)) := ⟨_, _, _, rfl, o1, o2, o3⟩
    obtain ⟨kk, HKK⟩ : ∃ kk, Hid (doK d x = kk) := ⟨_, rfl⟩
    rw [HKK.out]
    obtain ⟨D1, b1, rfl, y1, y2⟩ := own_shape o1
    obtain ⟨D2, b2, rfl, y3, y4⟩ := own_shape o2
    obtain ⟨D3, b3, rfl, y5, y6⟩ := own_shape o3
    clear hb o1 o2 o3 y1 y2 y3 y4 y5 y6 k0 k1 k2 x0 x1 x2 x3
    go_wp2_with fail
    refine bodyPost_ret (v := .tuple #[.agg #[.slice D1 (acD d x).live.length b1, .slice D2 (acD d x).safe.length b2, .slice D3 (acD d x).ops.length b3], .int .i64 kk]) ?_ rfl ⟨_, by rw [HKK.out], ?_, ?_, ?_⟩
    · simp (maxDischargeDepth := 9) [results, Try.results21, go_sem, *]
    · exact (((HH.out.set (by omega) _ _).set (by omega) _ _).set (by omega) _ _).mono (by omega)
    · exact ((BB.out.setCell (by show w.heap.size ≤ w.heap.size + 1 + 1; omega) _).setCell (by show w.heap.size ≤ w.heap.size + 1 + 1; omega) _).setCell (by show w.heap.size ≤ w.heap.size + 1 + 1; omega) _
    · first | exact HAP.out | exact fun h9 => HAP.out (by rw [HKK.out]; exact h9)
end Go.Proofs.Ytanjlpgdmnapdaa
