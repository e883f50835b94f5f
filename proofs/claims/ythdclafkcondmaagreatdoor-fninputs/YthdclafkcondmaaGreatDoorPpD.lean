import Derived.Test.YthdclafkcondmaaGreatDoorPpC
set_option linter.unusedSimpArgs false
set_option linter.unusedVariables false
namespace Go.Proofs.YthdclafkcondmaaGreatDoor
open Go.RowKit
/-! ### Places read again -/
theorem plT_head {c r : Int} {x y : Bool} (h : refOkB c r = true) : ∃ b t, plT c r x y = b :: t ∧ (b = 36 ∨ isL b = true) := by
  have hc := ref_bc h
  obtain ⟨l1, l2⟩ := col_letters c hc.1 hc.2
  unfold plT
  rw [placeT_L]
  cases x with
  | true => exact ⟨36, _, rfl, Or.inl rfl⟩
  | false =>
    cases hq : (colT c).data.toList with
    | nil => exact absurd hq l2
    | cons b t => exact ⟨b, _, rfl, Or.inr (l1 b (by rw [hq]; simp))⟩
theorem tr_rp : rpL (trT 0).data.toList = none ∧ rpL (trT 1).data.toList = none := by decide +kernel
theorem pl_sgn {b : UInt8} {t : List UInt8} (h : b = 36 ∨ isL b = true) : sgnl (b :: t) = none := by
  cases hq : sgnl (b :: t) with
  | none => rfl
  | some v =>
    exfalso
    obtain ⟨e, _⟩ := sgnl_itoa hq
    obtain ⟨h0, h1⟩ := it_first v
    have e2 : itB v = bs (b :: t) := by rw [← e]; rfl
    have e3 : ∀ s : ByteArray, s = bs (b :: t) → ∀ h : 0 < s.size, s[0] = b := fun s hs h => by subst hs; rfl
    rw [e3 _ e2 h0] at h1
    rcases h with h | h
    · rw [h] at h1
      revert h1
      decide
    · have := of_decide_eq_true (show decide (65 ≤ b.toNat ∧ b.toNat ≤ 90) = true from h)
      omega
theorem pl_rv {c r : Int} {x y : Bool} (h : refOkB c r = true) : rvL (plT c r x y) = none := by
  have hp := plT_rp (x := x) (y := y) h
  obtain ⟨b, t, e, hb⟩ := plT_head (x := x) (y := y) h
  rw [e] at hp ⊢
  have n0 : bs (b :: t) ≠ trT 0 := fun e' => by
    have : b :: t = (trT 0).data.toList := congrArg (fun s : ByteArray => s.data.toList) e'
    rw [this, tr_rp.1] at hp
    cases hp
  have n1 : bs (b :: t) ≠ trT 1 := fun e' => by
    have : b :: t = (trT 1).data.toList := congrArg (fun s : ByteArray => s.data.toList) e'
    rw [this, tr_rp.2] at hp
    cases hp
  have e0 : ∀ h : 0 < (bs (b :: t)).size, (bs (b :: t))[0] = b := fun _ => rfl
  have nb : b.toNat ≠ 39 ∧ b.toNat ≠ 35 := by
    rcases hb with hb | hb
    · subst hb; decide
    · have := of_decide_eq_true (show decide (65 ≤ b.toNat ∧ b.toNat ≤ 90) = true from hb)
      omega
  unfold rvL rvS
  rw [dif_pos (show 0 < (bs (b :: t)).size by rw [bs_size]; simp), e0, if_neg nb.1, if_neg n1, if_neg n0, if_neg nb.2, bs_list, pl_sgn hb]
  rfl
theorem cel_read {c r : Int} {x y : Bool} {l : List UInt8} {out : List FN} (h : refOkB c r = true) (hl : (plT c r x y ++ l).length ≤ 1000) (hs : Sep l) : PB RF 3 0 0 [] (plT c r x y ++ l) out = some ((out.length : Int), sb l, out ++ [RF.cel (c, r, x, y)]) := by
  obtain ⟨w1, w2⟩ := plT_W (x := x) (y := y) h
  obtain ⟨p1, p2⟩ := pk_wd (l := l) w2 w1 hs.w
  have hp := plT_rp (x := x) (y := y) h
  have hf : fnOf (plT c r x y) = 0 := fn_none (Or.inl (by rw [hp]; simp))
  obtain ⟨b, t, e, hb⟩ := plT_head (x := x) (y := y) h
  obtain ⟨n1, n2, n3, n4⟩ := isW_ne (w1 b (by rw [e]; simp))
  rw [one_els (x := none) (y := some (c, r, x, y)) hl (by rw [p1]; exact w2) ?_ ?_ ?_ (by rw [p1]; exact hf) (by rw [p1]; exact pl_rv h) (by rw [p1]; exact hp), p2]
  · rfl
  · rw [p1, e]; intro e'; exact n2 (List.cons.inj e').1
  · rw [p1, e]; intro e'; exact n3 (List.cons.inj e').1
  · rw [p1, e]; intro e'; exact n1 (Option.some.inj e')
theorem are_read {c r c' r' : Int} {x y x' y' : Bool} {l : List UInt8} {out : List FN} (h : refOkB c r = true) (h' : refOkB c' r' = true) (hl : (plT c r x y ++ [58] ++ plT c' r' x' y' ++ l).length ≤ 1000) (hs : Sep l) :
    PB RF 6 0 0 [] (plT c r x y ++ [58] ++ plT c' r' x' y' ++ l) out = some ((out.length : Int), sb l, out ++ [RF.are (c, r, x, y) (c', r', x', y')]) := by
  have e : plT c r x y ++ [58] ++ plT c' r' x' y' ++ l = plT c r x y ++ 58 :: (plT c' r' x' y' ++ l) := by simp
  rw [e] at hl ⊢
  obtain ⟨w1, w2⟩ := plT_W (x := x) (y := y) h
  obtain ⟨w1', w2'⟩ := plT_W (x := x') (y := y') h'
  obtain ⟨p1, p2⟩ := pk_wd (l := 58 :: (plT c' r' x' y' ++ l)) w2 w1 (fun b hb => by rw [← Option.some.inj hb]; decide)
  obtain ⟨q1, q2⟩ := pk_sign (c := 58) (l := plT c' r' x' y' ++ l) (by simp)
  obtain ⟨p1', p2'⟩ := pk_wd (l := l) w2' w1' hs.w
  rw [PB6 hl, p1, p2, q1, q2, p1', p2', if_pos ⟨w2, rfl⟩, RF_rp, RF_rp, plT_rp h, plT_rp h']
/-! ### What a text begins with, and what stands behind its first piece -/
theorem not58 {b : UInt8} {t : List UInt8} (h : b ≠ 58) (h32 : b ≠ 32) : pk (b :: t) ≠ [58] := fun e => by
  have := (is_one (b :: t) 58 (by simp)).1 e
  rw [sb_at h32] at this
  exact h (Option.some.inj this)
theorem sep58 {l : List UInt8} (h : Sep l) : pk l ≠ [58] := by
  cases l with
  | nil => decide
  | cons b t => exact not58 (h b rfl).2.2.1 (h b rfl).2.2.2
theorem beg58 {b : UInt8} {t : List UInt8} (h : Beg b) : pk (b :: t) ≠ [58] := not58 (beg_ne h).2.2.2.1 (beg_ne h).1
theorem cst_nx {k n : Int} {s : ByteArray} {l : List UInt8} (hc : cOk k n s = true) (hs : Sep l) : nx (cstT k n s ++ l) = l ∧ ∃ b t, cstT k n s = b :: t ∧ Beg b := by
  obtain ⟨h, h0, hn⟩ := cOk_parts hc
  unfold cstT
  rcases okV_kinds h with ⟨rfl, rfl, rfl⟩ | ⟨rfl, hr, rfl⟩ | ⟨rfl, rfl, hr⟩ | ⟨rfl, hr, rfl⟩ | ⟨rfl, h1, h5, rfl⟩
  · exact absurd rfl h0
  · have e2 : txV 1 n ⟨#[]⟩ = itB n := by rw [txV, h, if_pos rfl, txB, if_pos rfl]
    have e1 : (itB n).data.toList = Lib.decDigits n.toNat := by
      have := Lib.itoa_nonneg n.toNat
      rw [show ((n.toNat : Nat) : Int) = n by have := hn rfl; omega] at this
      rw [← this]
      rfl
    rw [if_neg (by omega), e2, e1]
    have hd := dig_all n.toNat
    have hne : Lib.decDigits n.toNat ≠ [] := by
      rw [Lib.decDigits]
      split
      · simp
      · simp
    refine ⟨(pk_wd (l := l) hne (fun b hb => (dig_W (hd b hb)).1) hs.w).2, ?_⟩
    cases hq : Lib.decDigits n.toNat with
    | nil => exact absurd hq hne
    | cons b t => exact ⟨b, t, rfl, Or.inl (dig_W (hd b (by rw [hq]; simp))).1⟩
  · rw [if_pos rfl]
    have e : [34] ++ qt s.data.toList ++ [34] ++ l = 34 :: (qt s.data.toList ++ [34] ++ l) := by simp
    rw [e]
    exact ⟨(pk_quote (sb_at (by decide)) (qEnd_of s.data.toList l hs.q)).2.1, 34, _, rfl, by unfold Beg; simp⟩
  · have e2 : txV 3 n ⟨#[]⟩ = trT n := by rw [txV, h, if_pos rfl, txB, if_neg (by omega), if_neg (by omega), if_pos rfl]
    rw [if_neg (by omega), e2]
    have hn : n = 0 ∨ n = 1 := by revert hr; simp [rTruth]
    have ha : (trT n).data.toList.all isW = true ∧ (trT n).data.toList ≠ [] := by rcases hn with rfl | rfl <;> decide
    refine ⟨(pk_wd (l := l) ha.2 (fun b hb => List.all_eq_true.1 ha.1 b hb) hs.w).2, ?_⟩
    rcases hn with rfl | rfl
    · exact ⟨70, _, rfl, by unfold Beg; decide⟩
    · exact ⟨84, _, rfl, by unfold Beg; decide⟩
  · have e2 : txV 4 n ⟨#[]⟩ = erT n := by rw [txV, h, if_pos rfl, txB, if_neg (by omega), if_neg (by omega), if_neg (by omega), if_pos rfl]
    rw [if_neg (by omega), e2, er_list n h1 h5]
    obtain ⟨e1, t, e3⟩ := er_at n.toNat (by omega) (by omega) l
    have hsb : sb (erL n.toNat ++ l) = erL n.toNat ++ l := by rw [e3]; exact sb_at (by decide)
    obtain ⟨_, q2, _⟩ := pk_err (l := erL n.toNat ++ l) (t := t) (by rw [hsb]; exact e3) (by rw [hsb, e1]; omega)
    rw [hsb, e1] at q2
    refine ⟨(List.append_cancel_left q2).symm, ?_⟩
    have hk : n = 1 ∨ n = 2 ∨ n = 3 ∨ n = 4 ∨ n = 5 := by omega
    rcases hk with rfl | rfl | rfl | rfl | rfl
    all_goals exact ⟨35, _, rfl, by unfold Beg; simp⟩
theorem fn_head (o : Int) (h1 : 1 ≤ o) (h2 : o ≤ 10) : (fnT o).all isW = true ∧ fnT o ≠ [] ∧ fnOf (fnT o) = o := by
  have hn : o = 1 ∨ o = 2 ∨ o = 3 ∨ o = 4 ∨ o = 5 ∨ o = 6 ∨ o = 7 ∨ o = 8 ∨ o = 9 ∨ o = 10 := by omega
  rcases hn with rfl | rfl | rfl | rfl | rfl | rfl | rfl | rfl | rfl | rfl <;> decide
/-- A right formula's facts, as the readings want them. -/
structure Rt (F : Nat → FN) (n : Nat) : Prop where
  node : ∀ i, i < n → nodeX (F i) = true
  rng : InRange (fG F) n
  ars : ∀ i, i < n → (F i).k ≠ 6 → ∀ c ∈ (F i).kids, (F c.toNat).k ≠ 3
theorem rt_of {F : Nat → FN} {n : Nat} (h : fOkB F n = true) : Rt F n ∧ (F (n - 1)).k ≠ 3 ∧ tree (fG F) ((n - 1 : Nat) : Int) = 0 := by
  obtain ⟨h1, h60, hn, hr, hd⟩ := fOk_in h
  simp only [fOkB, Bool.and_eq_true, decide_eq_true_eq, Bool.not_eq_true', decide_eq_false_iff_not] at h
  obtain ⟨⟨⟨⟨⟨_, _⟩, _⟩, hk⟩, ha, hl⟩, _⟩ := h
  refine ⟨⟨hn, hr, fun i hi h6 c hc h3 => ?_⟩, hl, ?_⟩
  · rw [arsB_no hi hc h3 h6] at ha
    cases ha
  · obtain ⟨m, rfl⟩ : ∃ m, n = m + 1 := ⟨n - 1, by omega⟩
    have h9 : kidsB (fG F) (m + 1) = true := hk
    rw [kidsB_tree] at h9
    exact of_decide_eq_true h9
theorem bdX_head {F : Nat → FN} {j : Nat} {z : Int} (h : ∃ b t, TX F j = b :: t ∧ Beg b) : ∃ b t, bdX F j z = b :: t ∧ Beg b := by
  unfold bdX
  split
  · exact ⟨40, _, rfl, by unfold Beg; simp⟩
  · exact h
theorem TX_head {F : Nat → FN} {n : Nat} (R : Rt F n) : ∀ i, i < n → ∃ b t, TX F i = b :: t ∧ Beg b := by
  intro i
  induction i using Nat.strongRecOn with
  | ind i ih =>
    intro hi
    rcases node_kinds (R.node i hi) with ⟨hk, hc, hg⟩ | ⟨hk, hc, hg⟩ | ⟨hk, hc, hc', hg⟩ | ⟨hk, c, hg⟩ | ⟨hk, o1, o2, a, b, hg⟩ | ⟨hk, o1, o2, k1, k2⟩
    · rw [TX_leaf (by omega) (by omega) (by omega), leafT, if_pos hk]
      exact (cst_nx hc sep_nil).2
    · rw [TX_leaf (by omega) (by omega) (by omega), leafT, if_neg (by omega), if_pos hk]
      obtain ⟨b, t, e, hb⟩ := plT_head (x := (F i).af) (y := (F i).ag) hc
      exact ⟨b, t, e, Or.inl ((plT_W hc).1 b (by rw [e]; simp))⟩
    · rw [TX_leaf (by omega) (by omega) (by omega), leafT, if_neg (by omega), if_neg (by omega)]
      obtain ⟨b, t, e, hb⟩ := plT_head (x := (F i).af) (y := (F i).ag) hc
      rw [e]
      exact ⟨b, _, rfl, Or.inl ((plT_W (x := (F i).af) (y := (F i).ag) hc).1 b (by rw [e]; simp))⟩
    · rw [TX_neg R.rng hi hk hg]
      exact ⟨45, _, rfl, by unfold Beg; simp⟩
    · rw [TX_bin R.rng hi hk hg]
      have hr := R.rng i hi a (by show a ∈ (F i).kids; rw [hg]; simp)
      obtain ⟨d, t, e, hb⟩ := bdX_head (z := lvl (F i).o) (ih a.toNat (by omega) (by omega))
      rw [e]
      exact ⟨d, _, rfl, hb⟩
    · rw [TX_call R.rng hi hk]
      obtain ⟨f1, f2, _⟩ := fn_head _ o1 o2
      cases hq : fnT (F i).o with
      | nil => exact absurd hq f2
      | cons d t => exact ⟨d, _, rfl, Or.inl (List.all_eq_true.1 f1 d (by rw [hq]; simp))⟩
/-- Behind the first piece stands no colon, but in an area. -/
theorem TX_second {F : Nat → FN} {n : Nat} (R : Rt F n) : ∀ i, i < n → (F i).k ≠ 3 → ∀ l, Sep l → pk (nx (TX F i ++ l)) ≠ [58] := by
  intro i
  induction i using Nat.strongRecOn with
  | ind i ih =>
    intro hi h3 l hs
    rcases node_kinds (R.node i hi) with ⟨hk, hc, hg⟩ | ⟨hk, hc, hg⟩ | ⟨hk, hc, hc', hg⟩ | ⟨hk, c, hg⟩ | ⟨hk, o1, o2, a, b, hg⟩ | ⟨hk, o1, o2, k1, k2⟩
    · rw [TX_leaf (by omega) (by omega) (by omega), leafT, if_pos hk, (cst_nx hc hs).1]
      exact sep58 hs
    · rw [TX_leaf (by omega) (by omega) (by omega), leafT, if_neg (by omega), if_pos hk]
      obtain ⟨w1, w2⟩ := plT_W (x := (F i).af) (y := (F i).ag) hc
      rw [(pk_wd (l := l) w2 w1 hs.w).2]
      exact sep58 hs
    · exact absurd hk h3
    · rw [TX_neg R.rng hi hk hg]
      have hr := R.rng i hi c (by show c ∈ (F i).kids; rw [hg]; simp)
      obtain ⟨d, t, e, hb⟩ := bdX_head (z := 5) (TX_head R c.toNat (by omega))
      rw [e, List.append_assoc]
      show pk (nx (45 :: (d :: t ++ l))) ≠ [58]
      rw [(pk_sign (c := 45) (by simp)).2]
      exact beg58 hb
    · rw [TX_bin R.rng hi hk hg]
      have hr := R.rng i hi a (by show a ∈ (F i).kids; rw [hg]; simp)
      have h3a := R.ars i hi (by omega) a (by rw [hg]; simp)
      unfold bdX
      split
      · obtain ⟨d, t, e, hb⟩ := TX_head R a.toNat (by omega)
        rw [e]
        simp only [List.append_assoc, List.cons_append, List.nil_append]
        rw [(pk_sign (c := 40) (by simp)).2]
        exact beg58 hb
      · rw [List.append_assoc, List.append_assoc]
        exact ih a.toNat (by omega) (by omega) h3a _ (sep_op _ o1 o2 _)
    · rw [TX_call R.rng hi hk]
      obtain ⟨f1, f2, _⟩ := fn_head _ o1 o2
      simp only [List.append_assoc, List.cons_append, List.nil_append]
      rw [(pk_wd f2 (fun b hb => List.all_eq_true.1 f1 b hb) (fun b hb => by rw [← Option.some.inj hb]; decide)).2]
      exact not58 (by decide) (by decide)
end Go.Proofs.YthdclafkcondmaaGreatDoor
