import Derived.Test.YthdclafkcondmaaGreatDoorPpB
set_option linter.unusedSimpArgs false
set_option linter.unusedVariables false
namespace Go.Proofs.YthdclafkcondmaaGreatDoor
open Go.RowKit
/-! ### A node is the one that its reading makes -/
theorem zP_of {c r : Int} {f g : Bool} (h : zP c r f g = true) : c = 0 ∧ r = 0 ∧ f = false ∧ g = false := by
  simp only [zP, Bool.and_eq_true, decide_eq_true_eq, Bool.not_eq_true'] at h
  exact ⟨h.1.1.1, h.1.1.2, h.1.2, h.2⟩
theorem zV_of {k n : Int} {s : ByteArray} (h : zV k n s = true) : k = 0 ∧ n = 0 ∧ s = ⟨#[]⟩ := by
  simp only [zV, Bool.and_eq_true, decide_eq_true_eq] at h
  exact ⟨h.1.1, h.1.2, emp_of h.2⟩
theorem node_cst {x : FN} (h : nodeX x = true) (hk : x.k = 1) : x = RF.cst x.ck x.cn x.cs.data.toList := by
  obtain ⟨k, o, ck, cn, cs, ac, ar, af, ag, bc, br, bf, bg, kids⟩ := x
  simp only at hk
  subst hk
  unfold nodeX nodeB at h
  rw [if_pos rfl] at h
  simp only [Bool.and_eq_true, decide_eq_true_eq] at h
  obtain ⟨⟨⟨⟨_, ho⟩, ha⟩, hb⟩, hl⟩ := h
  obtain ⟨rfl, rfl, rfl, rfl⟩ := zP_of ha
  obtain ⟨rfl, rfl, rfl, rfl⟩ := zP_of hb
  obtain rfl := ho
  obtain rfl := List.length_eq_zero_iff.1 hl
  rfl
theorem node_cel {x : FN} (h : nodeX x = true) (hk : x.k = 2) : x = RF.cel (x.ac, x.ar, x.af, x.ag) := by
  obtain ⟨k, o, ck, cn, cs, ac, ar, af, ag, bc, br, bf, bg, kids⟩ := x
  simp only at hk
  subst hk
  unfold nodeX nodeB at h
  rw [if_neg (by simp), if_pos rfl] at h
  simp only [Bool.and_eq_true, decide_eq_true_eq] at h
  obtain ⟨⟨⟨⟨_, ho⟩, ha⟩, hb⟩, hl⟩ := h
  obtain ⟨rfl, rfl, rfl⟩ := zV_of ha
  obtain ⟨rfl, rfl, rfl, rfl⟩ := zP_of hb
  obtain rfl := ho
  obtain rfl := List.length_eq_zero_iff.1 hl
  rfl
theorem node_are {x : FN} (h : nodeX x = true) (hk : x.k = 3) : x = RF.are (x.ac, x.ar, x.af, x.ag) (x.bc, x.br, x.bf, x.bg) := by
  obtain ⟨k, o, ck, cn, cs, ac, ar, af, ag, bc, br, bf, bg, kids⟩ := x
  simp only at hk
  subst hk
  unfold nodeX nodeB at h
  rw [if_neg (by simp), if_neg (by simp), if_pos rfl] at h
  simp only [Bool.and_eq_true, decide_eq_true_eq] at h
  obtain ⟨⟨⟨_, ho⟩, ha⟩, hl⟩ := h
  obtain ⟨rfl, rfl, rfl⟩ := zV_of ha
  obtain rfl := ho
  obtain rfl := List.length_eq_zero_iff.1 hl
  rfl
theorem node_neg {x : FN} {c : Int} (h : nodeX x = true) (hk : x.k = 4) (hg : x.kids = [c]) : x = RF.neg c := by
  obtain ⟨k, o, ck, cn, cs, ac, ar, af, ag, bc, br, bf, bg, kids⟩ := x
  simp only at hk hg
  subst hk hg
  unfold nodeX nodeB at h
  rw [if_neg (by simp), if_neg (by simp), if_neg (by simp), if_pos rfl] at h
  simp only [Bool.and_eq_true, decide_eq_true_eq] at h
  obtain ⟨⟨_, ho⟩, ⟨hv, ha⟩, hb⟩ := h
  obtain ⟨rfl, rfl, rfl⟩ := zV_of hv
  obtain ⟨rfl, rfl, rfl, rfl⟩ := zP_of ha
  obtain ⟨rfl, rfl, rfl, rfl⟩ := zP_of hb
  obtain rfl := ho
  rfl
theorem node_bin {x : FN} {a b : Int} (h : nodeX x = true) (hk : x.k = 5) (hg : x.kids = [a, b]) : x = RF.bin x.o a b := by
  obtain ⟨k, o, ck, cn, cs, ac, ar, af, ag, bc, br, bf, bg, kids⟩ := x
  simp only at hk hg
  subst hk hg
  unfold nodeX nodeB at h
  rw [if_neg (by simp), if_neg (by simp), if_neg (by simp), if_neg (by simp), if_pos rfl] at h
  simp only [Bool.and_eq_true, decide_eq_true_eq] at h
  obtain ⟨⟨_, ho⟩, ⟨hv, ha⟩, hb⟩ := h
  obtain ⟨rfl, rfl, rfl⟩ := zV_of hv
  obtain ⟨rfl, rfl, rfl, rfl⟩ := zP_of ha
  obtain ⟨rfl, rfl, rfl, rfl⟩ := zP_of hb
  rfl
theorem node_cal {x : FN} (h : nodeX x = true) (hk : x.k = 6) : x = RF.cal x.o x.kids := by
  obtain ⟨k, o, ck, cn, cs, ac, ar, af, ag, bc, br, bf, bg, kids⟩ := x
  simp only at hk
  subst hk
  unfold nodeX nodeB at h
  rw [if_neg (by simp), if_neg (by simp), if_neg (by simp), if_neg (by simp), if_neg (by simp), if_pos rfl] at h
  simp only [Bool.and_eq_true, decide_eq_true_eq] at h
  obtain ⟨_, ⟨hv, ha⟩, hb⟩ := h
  obtain ⟨rfl, rfl, rfl⟩ := zV_of hv
  obtain ⟨rfl, rfl, rfl, rfl⟩ := zP_of ha
  obtain ⟨rfl, rfl, rfl, rfl⟩ := zP_of hb
  rfl
/-! ### Words: values and places -/
theorem rv_tx {k n : Int} {s : ByteArray} (h : okV k n s = true) : rvL (txV k n s).data.toList = some (k, n, s.data.toList) := by
  have hg := guess_okV (txV k n s)
  rw [guess_back h] at hg
  unfold rvL
  rw [bs_of, ← rv_same, guess_back h, rvT, if_pos (hg.trans h)]
  rfl
theorem dig_all (m : Nat) : ∀ b ∈ Lib.decDigits m, 48 ≤ b.toNat ∧ b.toNat ≤ 57 := by
  induction m using Nat.strongRecOn with
  | ind m ih =>
    intro b hb
    rw [Lib.decDigits] at hb
    split at hb
    · rw [List.mem_singleton] at hb
      rw [hb]
      simp
      omega
    · rcases List.mem_append.1 hb with hb | hb
      · exact ih (m / 10) (by omega) b hb
      · rw [List.mem_singleton] at hb
        rw [hb]
        simp
        omega
theorem dig_W {b : UInt8} (h : 48 ≤ b.toNat ∧ b.toNat ≤ 57) : isW b = true ∧ b ≠ 36 ∧ isL b = false := by
  refine ⟨?_, fun e => by subst e; revert h; decide, ?_⟩
  · unfold isW
    simp [h]
  · unfold isL
    simp
    omega
theorem num_read {n : Int} {l : List UInt8} {out : List FN} (h0 : 0 ≤ n) (h : okV 1 n ⟨#[]⟩ = true) (hl : ((itB n).data.toList ++ l).length ≤ 1000) (hs : Sep l) : PB RF 3 0 0 [] ((itB n).data.toList ++ l) out = some ((out.length : Int), sb l, out ++ [RF.cst 1 n []]) := by
  have e1 : (itB n).data.toList = Lib.decDigits n.toNat := by
    have := Lib.itoa_nonneg n.toNat
    rw [show ((n.toNat : Nat) : Int) = n by omega] at this
    rw [← this]
    rfl
  have hx := rv_tx h
  have e2 : txV 1 n ⟨#[]⟩ = itB n := by rw [txV, h, if_pos rfl, txB, if_pos rfl]
  rw [e2, e1] at hx
  rw [e1] at hl ⊢
  have hd := dig_all n.toNat
  have hne : Lib.decDigits n.toNat ≠ [] := by
    rw [Lib.decDigits]
    split
    · simp
    · simp
  obtain ⟨p1, p2⟩ := pk_wd (l := l) hne (fun b hb => (dig_W (hd b hb)).1) hs.w
  have hf : fnOf (Lib.decDigits n.toNat) = 0 := fn_none (Or.inr (by rw [hx]; simp))
  rw [one_els (x := some (1, n, [])) (y := none) hl (by rw [p1]; exact hne) ?_ ?_ ?_ (by rw [p1]; exact hf) (by rw [p1]; exact hx) ?_, p2]
  · rfl
  all_goals
    rw [p1]
    cases hq : Lib.decDigits n.toNat with
    | nil => exact absurd hq hne
    | cons b t =>
      have hb := hd b (by rw [hq]; simp)
      obtain ⟨hw, h36, hL⟩ := dig_W hb
      obtain ⟨n1, n2, n3, n4⟩ := isW_ne hw
      first
      | exact rp_none h36 hL
      | (intro e; exact n2 (List.cons.inj e).1)
      | (intro e; exact n3 (List.cons.inj e).1)
      | (intro e; exact n1 (Option.some.inj e))
theorem tr_read {n : Int} {l : List UInt8} {out : List FN} (hn : n = 0 ∨ n = 1) (hl : ((trT n).data.toList ++ l).length ≤ 1000) (hs : Sep l) : PB RF 3 0 0 [] ((trT n).data.toList ++ l) out = some ((out.length : Int), sb l, out ++ [RF.cst 3 n []]) := by
  have hx : okV 3 n ⟨#[]⟩ = true := by rcases hn with rfl | rfl <;> decide +kernel
  have hv := rv_tx hx
  have e2 : txV 3 n ⟨#[]⟩ = trT n := by rw [txV, hx, if_pos rfl, txB, if_neg (by omega), if_neg (by omega), if_pos rfl]
  rw [e2] at hv
  have ha : (trT n).data.toList.all isW = true ∧ (trT n).data.toList ≠ [] ∧ (trT n).data.toList ≠ [40] ∧ (trT n).data.toList ≠ [45] ∧ (trT n).data.toList.head? ≠ some 34 := by rcases hn with rfl | rfl <;> decide
  obtain ⟨a1, a2, a3, a4, a5⟩ := ha
  obtain ⟨p1, p2⟩ := pk_wd (l := l) a2 (fun b hb => List.all_eq_true.1 a1 b hb) hs.w
  have hf : fnOf (trT n).data.toList = 0 := fn_none (Or.inr (by rw [hv]; simp))
  rw [one_els (x := some (3, n, [])) (y := rpL (trT n).data.toList) hl (by rw [p1]; exact a2) (by rw [p1]; exact a3) (by rw [p1]; exact a4) (by rw [p1]; exact a5) (by rw [p1]; exact hf) (by rw [p1]; exact hv) (by rw [p1]), p2]
  rfl
theorem er_list (n : Int) (h1 : 1 ≤ n) (h5 : n ≤ 5) : (erT n).data.toList = erL n.toNat := by
  have hn : n = 1 ∨ n = 2 ∨ n = 3 ∨ n = 4 ∨ n = 5 := by omega
  rcases hn with rfl | rfl | rfl | rfl | rfl <;> rfl
theorem er_at (k : Nat) (h1 : 1 ≤ k) (h5 : k ≤ 5) (l : List UInt8) : erAt (erL k ++ l) = k ∧ ∃ t, erL k ++ l = 35 :: t := by
  have hn : k = 1 ∨ k = 2 ∨ k = 3 ∨ k = 4 ∨ k = 5 := by omega
  rcases hn with rfl | rfl | rfl | rfl | rfl
  all_goals exact ⟨by simp [erAt, erL, List.isPrefixOf], _, rfl⟩
theorem er_read {n : Int} {l : List UInt8} {out : List FN} (h1 : 1 ≤ n) (h5 : n ≤ 5) (hl : ((erT n).data.toList ++ l).length ≤ 1000) : PB RF 3 0 0 [] ((erT n).data.toList ++ l) out = some ((out.length : Int), sb l, out ++ [RF.cst 4 n []]) := by
  rw [er_list n h1 h5] at hl ⊢
  obtain ⟨e1, t, e2⟩ := er_at n.toNat (by omega) (by omega) l
  have hsb : sb (erL n.toNat ++ l) = erL n.toNat ++ l := by rw [e2]; exact sb_at (by decide)
  rw [one_err (t := t) (k := n.toNat) hl (by rw [hsb]; exact e2) (by rw [hsb]; exact e1) (by omega), hsb, List.drop_left, show ((n.toNat : Nat) : Int) = n by omega]
theorem quo_read {s : List UInt8} {l : List UInt8} {out : List FN} (hl : ([34] ++ qt s ++ [34] ++ l).length ≤ 1000) (hs : Sep l) : PB RF 3 0 0 [] ([34] ++ qt s ++ [34] ++ l) out = some ((out.length : Int), sb l, out ++ [RF.cst 2 0 s]) := by
  have e : [34] ++ qt s ++ [34] ++ l = 34 :: (qt s ++ [34] ++ l) := by simp
  rw [e] at hl ⊢
  exact one_quo hl (sb_at (by decide)) (qEnd_of s l hs.q)
theorem cst_read {k n : Int} {s : ByteArray} {l : List UInt8} {out : List FN} (hc : cOk k n s = true) (hl : (cstT k n s ++ l).length ≤ 1000) (hs : Sep l) : PB RF 3 0 0 [] (cstT k n s ++ l) out = some ((out.length : Int), sb l, out ++ [RF.cst k n s.data.toList]) := by
  obtain ⟨h, h0, hn⟩ := cOk_parts hc
  unfold cstT at hl ⊢
  rcases okV_kinds h with ⟨rfl, rfl, rfl⟩ | ⟨rfl, hr, rfl⟩ | ⟨rfl, rfl, hr⟩ | ⟨rfl, hr, rfl⟩ | ⟨rfl, h1, h5, rfl⟩
  · exact absurd rfl h0
  · have e2 : txV 1 n ⟨#[]⟩ = itB n := by rw [txV, h, if_pos rfl, txB, if_pos rfl]
    rw [if_neg (by omega), e2] at hl ⊢
    exact num_read (hn rfl) h hl hs
  · rw [if_pos rfl] at hl ⊢
    exact quo_read hl hs
  · have e2 : txV 3 n ⟨#[]⟩ = trT n := by rw [txV, h, if_pos rfl, txB, if_neg (by omega), if_neg (by omega), if_pos rfl]
    rw [if_neg (by omega), e2] at hl ⊢
    exact tr_read (by revert hr; simp [rTruth]) hl hs
  · have e2 : txV 4 n ⟨#[]⟩ = erT n := by rw [txV, h, if_pos rfl, txB, if_neg (by omega), if_neg (by omega), if_neg (by omega), if_pos rfl]
    rw [if_neg (by omega), e2] at hl ⊢
    exact er_read h1 h5 hl
end Go.Proofs.YthdclafkcondmaaGreatDoor
