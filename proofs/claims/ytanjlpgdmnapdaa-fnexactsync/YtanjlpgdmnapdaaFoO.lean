import Derived.Test.YtanjlpgdmnapdaaFoN
namespace Go.Proofs.Ytanjlpgdmnapdaa
open Go.RowKit Go.Maps
set_option linter.unusedSimpArgs false
set_option linter.unusedVariables false

/-- A disk. -/
structure DK where
  live : List FI
  safe : List FI
  ops : List DP
/-- The ops one by one: none where one is refused. -/
def runO : List DP → List FI → Option (List FI)
  | [], L => some L
  | x :: r, L => if doC x L = 0 then runO r (doL x L) else none
def diskB (d : DK) : Bool := filesB d.live && (filesB d.safe && (decide (d.ops.length ≤ 200) && (match runO d.ops d.safe with | some L => sameB L d.live | none => false)))
theorem bool_true {b : Bool} (h : ¬ b = false) : b = true := by cases b <;> simp_all
theorem doC_zero {x : DP} {L : List FI} (h : doC x L = 0) : formB x = true ∧ findB x L = true ∧ fitB (doL x L) = true := by
  unfold doC at h
  split at h
  · cases h
  · split at h
    · cases h
    · split at h
      · cases h
      · rename_i h1 h2 h3
        exact ⟨bool_true h1, bool_true h2, bool_true h3⟩
theorem doG_of {x : DP} {L : List FI} (h : doC x L = 0) : doG x L = doL x L := by
  have := doC_zero h
  rw [doG, if_pos ⟨this.1, this.2.1⟩]
theorem runO_take {ops : List DP} {S L : List FI} {t : Nat} {x : DP} (h : runO (ops.take t) S = some L) (hx : ops[t]? = some x) (h0 : doC x L = 0) : runO (ops.take (t + 1)) S = some (doL x L) := by
  rw [List.take_add_one, hx]
  have key : ∀ (a : List DP) (S : List FI), runO a S = some L → runO (a ++ [x]) S = some (doL x L) := by
    intro a
    induction a with
    | nil => intro S hS; cases hS; simp [runO, h0]
    | cons y r ih =>
      intro S hS
      simp only [runO, List.cons_append] at hS ⊢
      split at hS
      · rename_i hy
        rw [if_pos hy]; exact ih _ hS
      · cases hS
  exact key _ _ h
theorem runO_stop {ops : List DP} {S L : List FI} {t : Nat} {x : DP} (h : runO (ops.take t) S = some L) (hx : ops[t]? = some x) (h0 : doC x L ≠ 0) : runO ops S = none := by
  have e : ops = ops.take t ++ x :: ops.drop (t + 1) := by
    have ht : t < ops.length := (List.getElem?_eq_some_iff.1 hx).1
    conv => lhs; rw [← List.take_append_drop t ops, List.drop_eq_getElem_cons ht]
    rw [(List.getElem?_eq_some_iff.1 hx).2]
  rw [e]
  have key : ∀ (a : List DP) (S : List FI), runO a S = some L → ∀ r, runO (a ++ x :: r) S = none := by
    intro a
    induction a with
    | nil => intro S hS r; cases hS; simp [runO, h0]
    | cons y q ih =>
      intro S hS r
      simp only [runO, List.cons_append] at hS ⊢
      split at hS
      · rename_i hy
        rw [if_pos hy]; exact ih _ hS r
      · cases hS
  exact key _ _ h _
theorem run_tot {ops : List DP} {S L : List FI} : ∀ {t : Nat}, runO (ops.take t) S = some L → filesB S = true → totL L ≤ 200000 := by
  have key : ∀ (a : List DP) (S : List FI), totL S ≤ 200000 → runO a S = some L → totL L ≤ 200000 := by
    intro a
    induction a with
    | nil => intro S h hS; cases hS; exact h
    | cons y q ih =>
      intro S h hS
      simp only [runO] at hS
      split at hS
      · rename_i hy
        have h1 := (doC_zero hy).2.2
        simp only [fitB, Bool.and_eq_true, decide_eq_true_eq] at h1
        exact ih _ h1.2 hS
      · cases hS
  intro t h hf
  simp only [filesB, Bool.and_eq_true, decide_eq_true_eq] at hf
  exact key _ _ hf.2.2.2 h

/-- A disk in memory. -/
def DkRow (w : World) (v : Value) (d : DK) : Prop :=
  ∃ A1 c1 A2 c2 A3 c3, v = .agg #[.slice A1 d.live.length c1, .slice A2 d.safe.length c2, .slice A3 d.ops.length c3] ∧ FiRow w A1 d.live ∧ FiRow w A2 d.safe ∧ DpRow w A3 d.ops ∧ (A1 = none → c1 = 0) ∧ (A2 = none → c2 = 0) ∧ (A3 = none → c3 = 0)
theorem DkRow.below {w w' : World} {v : Value} {d : DK} (h : DkRow w v d) (hb : Below w.heap.size w w') : DkRow w' v d := by
  obtain ⟨A1, c1, A2, c2, A3, c3, e, h1, h2, h3, z⟩ := h
  exact ⟨A1, c1, A2, c2, A3, c3, e, h1.below hb, h2.below hb, h3.below hb, z⟩
/-- All texts short, all rows short. -/
structure DkLil (d : DK) : Prop where
  l1 : ∀ x ∈ d.live, fiLil x
  l2 : ∀ x ∈ d.safe, fiLil x
  l3 : ∀ x ∈ d.ops, dpLil x
  n1 : d.live.length ≤ 1048576
  n2 : d.safe.length ≤ 1048576
  n3 : d.ops.length ≤ 1048576

set_option maxRecDepth 100000 in
set_option maxHeartbeats 4000000 in
theorem impl_DiskOk {v : Value} {d : DK} (w : World) (h : DkRow w v d) (hl : DkLil d) :
    Calls Try.prog 14 #[v] w fun e w' => e = .returned (.bool (diskB d)) ∧ Below w.heap.size w w' := by
  obtain ⟨A1, c1, A2, c2, A3, c3, rfl, h1, h2, h3, z0⟩ := h
  clear z0
  have HR1 : Hid (FiRow w A1 d.live) := h1
  have HR2 : Hid (FiRow w A2 d.safe) := h2
  have HR3 : Hid (DpRow w A3 d.ops) := h3
  have HL : Hid (DkLil d) := hl
  obtain ⟨n1, HN1⟩ : ∃ n1, Hid (d.live.length = n1) := ⟨_, rfl⟩
  obtain ⟨n2, HN2⟩ : ∃ n2, Hid (d.safe.length = n2) := ⟨_, rfl⟩
  obtain ⟨n3, HN3⟩ : ∃ n3, Hid (d.ops.length = n3) := ⟨_, rfl⟩
  have hn1 : n1 ≤ 1048576 := by rw [← HN1.out]; exact hl.n1
  have hn2 : n2 ≤ 1048576 := by rw [← HN2.out]; exact hl.n2
  have hn3 : n3 ≤ 1048576 := by rw [← HN3.out]; exact hl.n3
  rw [HN1.out, HN2.out, HN3.out]
  clear h1 h2 h3 hl
  obtain ⟨f1, HF1⟩ : ∃ f1, Hid (filesB d.live = f1) := ⟨_, rfl⟩
  obtain ⟨f2, HF2⟩ : ∃ f2, Hid (filesB d.safe = f2) := ⟨_, rfl⟩
  cases f1
  · have HE : Hid (diskB d = false) := by show _ = _; rw [diskB, HF1.out]; rfl
    rw [HE.out]
    go_enter Try.func14, Try.ntmps14
    go_wp2_with (first
      | (go_at_call 41; refine (impl_filesOk _ (HR1.out.below (by go_grown)) HN1.out hn1 HL.out.l1).mono ?_; rintro e w1 ⟨rfl, hb⟩; rw [HF1.out]; have HB1 : Hid (Below w.heap.size w w1) := (Below.trans (by go_grown) (hb.mono (by simp))); clear hb))
    go_ret
    exact ⟨rfl, HB1.out⟩
  cases f2
  · have HE : Hid (diskB d = false) := by show _ = _; rw [diskB, HF1.out, HF2.out]; rfl
    rw [HE.out]
    go_enter Try.func14, Try.ntmps14
    go_wp2_with fail
    refine (impl_filesOk _ (HR1.out.below (by go_grown)) HN1.out hn1 HL.out.l1).mono ?_
    rintro e w1 ⟨rfl, hb⟩
    rw [HF1.out]
    obtain ⟨hc, hf, hC, hF, hz, hk, l0⟩ := bk1 (w := w) (by go_grown) (by go_size) hb
    have HB1 : Hid (Below w.heap.size w w1) := hk
    clear hb hk
    go_wp2_with fail
    refine (impl_filesOk _ (HR2.out.below HB1.out) HN2.out hn2 HL.out.l2).mono ?_
    rintro e w2 ⟨rfl, hb⟩
    rw [HF2.out]
    have HB2 : Hid (Below w.heap.size w w2) := bchain HB1.out hb
    clear hb
    go_wp2_with fail
    go_ret
    exact ⟨rfl, HB2.out⟩
  by_cases h200 : (200 : Int) < (n3 : Int)
  · have HE : Hid (diskB d = false) := by show _ = _; rw [diskB, HF1.out, HF2.out, decide_eq_false (by rw [HN3.out]; omega)]; rfl
    rw [HE.out]
    go_enter Try.func14, Try.ntmps14
    go_wp2_with fail
    refine (impl_filesOk _ (HR1.out.below (by go_grown)) HN1.out hn1 HL.out.l1).mono ?_
    rintro e w1 ⟨rfl, hb⟩
    rw [HF1.out]
    obtain ⟨hc, hf, hC, hF, hz, hk, l0⟩ := bk1 (w := w) (by go_grown) (by go_size) hb
    have HB1 : Hid (Below w.heap.size w w1) := hk
    clear hb hk
    go_wp2_with fail
    refine (impl_filesOk _ (HR2.out.below HB1.out) HN2.out hn2 HL.out.l2).mono ?_
    rintro e w2 ⟨rfl, hb⟩
    rw [HF2.out]
    obtain ⟨hc2, hf2, hC2, hF2, hz2, hk2, l02⟩ := bk1 (w := w) HB1.out (by omega) hb
    have HB2 : Hid (Below w.heap.size w w2) := hk2
    clear hb hk2
    go_wp2_with fail
    go_ret
    exact ⟨rfl, HB2.out⟩
  have HE : Hid (diskB d = (match runO d.ops d.safe with | some L => sameB L d.live | none => false)) := by
    show _ = _
    rw [diskB, HF1.out, HF2.out, decide_eq_true (by rw [HN3.out]; omega)]; rfl
  go_enter Try.func14, Try.ntmps14
  go_wp2_with fail
  refine (impl_filesOk _ (HR1.out.below (by go_grown)) HN1.out hn1 HL.out.l1).mono ?_
  rintro e w1 ⟨rfl, hb⟩
  rw [HF1.out]
  have k0 := cy hb (b := w.heap.size) (o := 0) (x := .slice A1 n1 c1) (by simp)
  have k1 := cy hb (b := w.heap.size) (o := 1) (x := .slice A2 n2 c2) (by simp)
  have k2 := cy hb (b := w.heap.size) (o := 2) (x := .slice A3 n3 c3) (by simp)
  have HB1 : Hid (Below w.heap.size w w1) := Below.trans (by go_grown) (hb.mono (by simp))
  clear hb
  go_wp2_with fail
  refine (impl_filesOk _ (HR2.out.below HB1.out) HN2.out hn2 HL.out.l2).mono ?_
  rintro e w2 ⟨rfl, hb⟩
  rw [HF2.out]
  replace k0 := cy hb k0
  replace k1 := cy hb k1
  replace k2 := cy hb k2
  have HB2 : Hid (Below w.heap.size w w2) := bchain HB1.out hb
  clear hb
  go_wp2_with fail
  refine (impl_folderOf _ (HR2.out.below HB2.out) HN2.out (filesB_up HF2.out) (by omega) (fun x hx => fiOk_of (HL.out.l2 x hx)) ?_).mono ?_
  · have := tot_lil HL.out.l2
    rw [HN2.out] at this
    omega
  rintro e w3 ⟨rfl, hF, hb⟩
  have HS2 : Hid (w.heap.size < w2.heap.size) := World.block_lt_of_cell? w2 ⟨w.heap.size, 0, none⟩ k0
  replace k0 := cy hb k0
  replace k1 := cy hb k1
  replace k2 := cy hb k2
  have HK : Hid (w3.cell? ⟨w.heap.size, 0, none⟩ = some (.slice A1 n1 c1)) := k0
  have HF3 : Hid (FoldL w3 w2.heap.size w2.heap.size n2 d.safe) := hF
  have HB3 : Hid (Below w2.heap.size w2 w3) := hb
  clear hb hF
  clear h200
  go_wp2_with fail
  clear k0 k1 k2
  go_loopw [28] (fun i wr => ∃ (t : Nat) (L : List FI), t ≤ n3 ∧ i = .int .i64 t ∧ runO (d.ops.take t) d.safe = some L ∧ FoldL wr w2.heap.size w2.heap.size (n2 + t) L ∧ Below w2.heap.size w2 wr ∧ wr.cell? ⟨w.heap.size, 0, none⟩ = some (.slice A1 n1 c1)) (fun i _ => n3 - (intOf i).toNat)
  case atStart => exact ⟨0, d.safe, Nat.zero_le _, rfl, by simp [runO], HF3.out, HB3.out, HK.out⟩
  case round =>
    clear HF3 HB3 HK
    obtain ⟨t, L, ht, rfl, hrun, hF, hbel, k0⟩ := hrel
    have HRN : Hid (runO (d.ops.take t) d.safe = some L) := hrun
    have HF : Hid (FoldL wr w2.heap.size w2.heap.size (n2 + t) L) := hF
    have HB : Hid (Below w2.heap.size w2 wr) := hbel
    have HBW : Hid (Below w.heap.size w wr) := HB2.out.trans (hbel.mono HB2.out.size)
    have HTL : Hid (totL L ≤ 200000) := run_tot hrun HF2.out
    clear hrun hF hbel
    by_cases hlt : t < n3
    · obtain ⟨x, hx⟩ := at_lt HN3.out hlt
      have HX : Hid (d.ops[t]? = some x) := hx
      obtain ⟨b, o, rfl, hl, hc⟩ := HR3.out.2 t x hx
      have d0 : w.cell? ⟨b, o + t * 4, none⟩ = some (.int .i64 x.k) := hc 0 _ rfl
      have d1 : w.cell? ⟨b, o + t * 4 + 1, none⟩ = some (.string x.n) := hc 1 _ rfl
      have d2 : w.cell? ⟨b, o + t * 4 + 2, none⟩ = some (.string x.t) := hc 2 _ rfl
      have d3 : w.cell? ⟨b, o + t * 4 + 3, none⟩ = some (.string x.d) := hc 3 _ rfl
      clear hc hx
      rw [← HBW.out.cell (p := ⟨_, _, none⟩) hl] at d0 d1 d2 d3
      have hl2 : b < wr.heap.size := Nat.lt_of_lt_of_le hl HBW.out.size
      have hk2 : w.heap.size < wr.heap.size := World.block_lt_of_cell? wr ⟨w.heap.size, 0, none⟩ k0
      have HK0 : Hid (wr.cell? ⟨w.heap.size, 0, none⟩ = some (.slice A1 n1 c1)) := k0
      have q0 : (0 : Int) ≤ (t : Int) := by omega
      have q1 : (t : Int) < (n3 : Int) := by omega
      have hwr2 := HB.out.size
      clear k0
      go_wp2_with fail
      refine (impl_do x _ (HF.out.below (by go_grown)) (by simp; omega) (HL.out.l3 x (List.mem_of_getElem? HX.out)) (by omega) (Nat.le_trans HTL.out (by omega))).mono ?_
      rintro e w4 ⟨rfl, hF4, hb⟩
      have HF4 : Hid (FoldL w4 w2.heap.size w2.heap.size (n2 + t + 1) (doG x L)) := hF4
      have HB4 : Hid (Below w2.heap.size w2 w4) := HB.out.trans (Below.trans (by go_grown) hb)
      have HK4 : Hid (w4.cell? ⟨w.heap.size, 0, none⟩ = some (.slice A1 n1 c1)) := by
        show _ = _
        rw [hb.cell (p := ⟨w.heap.size, 0, none⟩) HS2.out, World.cell?_alloc_old _ _ _ (by show w.heap.size ≠ wr.heap.size; omega)]
        exact HK0.out
      clear hb hF4 d0 d1 d2 d3
      obtain ⟨c, HC⟩ : ∃ c, Hid (doC x L = c) := ⟨_, rfl⟩
      rw [HC.out]
      by_cases hc0 : c = 0
      · subst hc0
        go_wp2_with fail
        go_roundw
        case rel => exact ⟨t + 1, _, by omega, by go_num, runO_take HRN.out HX.out HC.out, by have h5 := HF4.out; rw [doG_of HC.out] at h5; exact h5, HB4.out, HK4.out⟩
        case measure => simp [intOf]; omega
      · have hc1 : (c == 0) = false := by simpa using hc0
        go_wp2_with fail
        go_ret
        refine ⟨ret_bool ?_, HB2.out.trans (HB4.out.mono HB2.out.size)⟩
        rw [HE.out, runO_stop HRN.out HX.out (by rw [HC.out]; exact hc0)]
    · have h1 : ¬ (t : Int) < (n3 : Int) := by omega
      obtain rfl : t = n3 := by omega
      have HRA : Hid (runO d.ops d.safe = some L) := by
        have := HRN.out
        rwa [List.take_of_length_le (by rw [HN3.out]; exact Nat.le_refl _)] at this
      have HE2 : Hid (diskB d = sameB L d.live) := by show _ = _; rw [HE.out, HRA.out]
      have hk2 : w.heap.size < wr.heap.size := World.block_lt_of_cell? wr ⟨w.heap.size, 0, none⟩ k0
      go_wp2_with fail
      go_region_held3 (fun w' => (∀ bq oq, bq < wr.heap.size → w'.cell? ⟨bq, oq, none⟩ = wr.cell? ⟨bq, oq, none⟩) ∧ wr.heap.size ≤ w'.heap.size ∧ Below wr.heap.size wr w')
        (exact sc_of (Nat.le_refl _) (by go_grown))
        (first
        | (go_at_call 45; refine (impl_inOrder _ (HF.out.below (by go_grown)) (Nat.le_trans HTL.out (by omega)) (by omega)).mono ?_; rintro e w5 ⟨v, rfl, hown, hb⟩; obtain ⟨hk1, hz1⟩ := bframe (B := wr.heap.size) (X := wr) (by go_grown) (by go_size) hb; obtain ⟨vA, vc, rfl, y1, y2⟩ := own_shape hown; have HOW : Hid (FiRow w5 vA L) := (RowAt.of_own fiL_len hown rfl); clear hb hown y1 y2)
        | (go_at_call 44; refine (slices_EqualF _ HOW.out (HR1.out.below (HBW.out.trans (hk1.mono HBW.out.size))) rfl HN1.out).mono ?_; rintro e w6 ⟨rfl, hb⟩; obtain ⟨hk3, hz3⟩ := bframe (B := wr.heap.size) (X := wr) hk1 hz1 hb; clear hb))
      all_goals go_wp2_with fail
      all_goals
        go_ret
        exact ⟨ret_bool HE2.out.symm, HBW.out.trans (hk3.mono HBW.out.size)⟩
end Go.Proofs.Ytanjlpgdmnapdaa
