import Derived.Test.YtfkklffdkpbibaaDoorFnM
namespace Go.Proofs.YtfkklffdkpbibaaDoor

/-! ### How deep a tree is, from below and from above -/
def maxL (D : Int → Int) (d : Int) (ks : List Int) : Int := ks.foldl (fun d k => max d (D k)) d
theorem maxL_le {D : Int → Int} : ∀ (ks : List Int) (d b : Int), maxL D d ks ≤ b ↔ d ≤ b ∧ ∀ k ∈ ks, D k ≤ b
  | [], d, b => by simp [maxL]
  | k :: ks, d, b => by
    show maxL D (max d (D k)) ks ≤ b ↔ _
    rw [maxL_le ks]
    simp only [List.mem_cons, forall_eq_or_imp]
    constructor
    · rintro ⟨h1, h2⟩; exact ⟨by omega, by omega, h2⟩
    · rintro ⟨h1, h2, h3⟩; exact ⟨by omega, h3⟩
theorem maxL_congr {D D' : Int → Int} : ∀ (ks : List Int) (d : Int), (∀ k ∈ ks, D k = D' k) → maxL D d ks = maxL D' d ks
  | [], _, _ => rfl
  | k :: ks, d, h => by
    show maxL D (max d (D k)) ks = maxL D' (max d (D' k)) ks
    rw [h k List.mem_cons_self]
    exact maxL_congr ks _ (fun x hx => h x (List.mem_cons_of_mem _ hx))
def deepF (G : Nat → List Int) : Nat → Int → Int
  | 0, _ => 1
  | fuel + 1, i => maxL (deepF G fuel) 0 (G i.toNat) + 1
def InRange (G : Nat → List Int) (n : Nat) : Prop := ∀ j, j < n → ∀ k ∈ G j, 0 ≤ k ∧ k < (j : Int)
theorem deep_fuel {G : Nat → List Int} {n : Nat} (hG : InRange G n) : ∀ (f f' : Nat) (x : Int), 0 ≤ x → x < n → x < f → x < f' → deepF G f x = deepF G f' x
  | 0, _, x, h0, _, h, _ => by omega
  | _ + 1, 0, x, h0, _, _, h => by omega
  | f + 1, f' + 1, x, h0, hn, h, h' => by
    rw [deepF, deepF, maxL_congr _ _ (fun k hk => ?_)]
    have := hG x.toNat (by omega) k hk
    exact deep_fuel hG f f' k (by omega) (by omega) (by omega) (by omega)
def deep (G : Nat → List Int) (i : Int) : Int := deepF G (i.toNat + 1) i
theorem deep_eq {G : Nat → List Int} {n : Nat} (hG : InRange G n) (i : Int) (h : 0 ≤ i) (hn : i < n) : deep G i = maxL (deep G) 0 (G i.toNat) + 1 := by
  rw [deep, deepF, maxL_congr _ _ (fun k hk => ?_)]
  have := hG i.toNat (by omega) k hk
  exact deep_fuel hG _ _ k (by omega) (by omega) (by omega) (by omega)
theorem maxL_ge {D : Int → Int} (ks : List Int) (d : Int) : d ≤ maxL D d ks := ((maxL_le ks d _).1 (Int.le_refl _)).1
theorem deep_pos (G : Nat → List Int) (i : Int) : 1 ≤ deep G i := by
  rw [deep, deepF]
  have := maxL_ge (D := deepF G i.toNat) (G i.toNat) 0
  omega

def stepA (G : Nat → List Int) (arr : Nat → Int) (i : Nat) : Option (Nat → Int) := if 12 ≤ arr i then none else some (fun j => if (j : Int) ∈ G i then arr i + 1 else arr j)
def proc (G : Nat → List Int) : (Nat → Int) → Nat → Nat → Option (Nat → Int)
  | arr, _, 0 => some arr
  | arr, e, t + 1 => match stepA G arr (e - 1) with
    | none => none
    | some a => proc G a (e - 1) t
theorem proc_add (G : Nat → List Int) : ∀ (s t : Nat) (arr : Nat → Int) (e : Nat), proc G arr e (s + t) = (proc G arr e s).bind fun a => proc G a (e - s) t
  | 0, t, arr, e => by rw [Nat.zero_add]; rfl
  | s + 1, t, arr, e => by
    rw [show s + 1 + t = (s + t) + 1 by omega, proc, proc]
    cases stepA G arr (e - 1) with
    | none => rfl
    | some a =>
      show proc G a (e - 1) (s + t) = _
      rw [proc_add G s t a (e - 1), show e - 1 - s = e - (s + 1) by omega]
theorem loop_ge {T : Int → Int} (hT : ∀ x, 0 ≤ x → T x ≤ x) : ∀ (ks : List Int) (e a : Int), loopT T (e - 1) ks = a → 0 ≤ a → a ≤ e ∧ ∀ k ∈ ks, a ≤ k
  | [], e, a, h, _ => ⟨by rw [loopT] at h; omega, fun k hk => by cases hk⟩
  | k :: ks, e, a, h, ha => by
    rw [loopT] at h
    split at h
    · omega
    · rename_i hc
      split at h
      · omega
      · have hle := hT (e - 1) (by omega)
        obtain ⟨h1, h2⟩ := loop_ge hT ks (T (e - 1)) a h ha
        refine ⟨by omega, fun x hx => ?_⟩
        rcases List.mem_cons.1 hx with rfl | hx
        · omega
        · exact h2 x hx
theorem proc_tree {G : Nat → List Int} {n : Nat} (hG : InRange G n) : ∀ (m i a : Nat) (arr : Nat → Int), i < m → i < n → tree G i = (a : Int) →
    (12 < arr i + deep G i → proc G arr (i + 1) (i + 1 - a) = none) ∧ (arr i + deep G i ≤ 12 → ∃ arr', proc G arr (i + 1) (i + 1 - a) = some arr' ∧ ∀ j, j < a → arr' j = arr j)
  | 0, i, _, _, h, _, _ => by omega
  | m + 1, i, a, arr, hi, hn, ht => by
    have htl : tree G i ≤ i := tree_le' G i (by omega)
    have hd := deep_eq hG i (by omega) (by omega)
    have hdp := deep_pos G i
    rw [tree_eq G i (by omega)] at ht
    have key : ∀ (ks : List Int) (e : Nat) (arr1 : Nat → Int) (d : Int), e ≤ i → loopT (tree G) ((e : Int) - 1) ks = (a : Int) → (∀ k ∈ ks, arr1 k.toNat = d) →
        ((∃ k ∈ ks, 12 < d + deep G k) → proc G arr1 e (e - a) = none) ∧ ((∀ k ∈ ks, d + deep G k ≤ 12) → ∃ arr', proc G arr1 e (e - a) = some arr' ∧ ∀ j, j < a → arr' j = arr1 j) := by
      intro ks
      induction ks with
      | nil =>
        intro e arr1 d he h _
        rw [loopT] at h
        obtain rfl : e = a := by omega
        rw [Nat.sub_self]
        refine ⟨?_, fun _ => ⟨arr1, rfl, fun _ _ => rfl⟩⟩
        rintro ⟨k, hk, _⟩
        cases hk
      | cons k ks ih =>
        intro e arr1 d he h hk
        rw [loopT] at h
        split at h
        · omega
        · rename_i hc
          split at h
          · omega
          · rename_i h2
            have hle := tree_le' G ((e : Int) - 1) (by omega)
            obtain ⟨b, hb⟩ : ∃ b : Nat, tree G ((e : Int) - 1) = (b : Int) := ⟨(tree G ((e : Int) - 1)).toNat, by omega⟩
            rw [hb] at h hle
            obtain ⟨e', rfl⟩ : ∃ e', e = e' + 1 := ⟨e - 1, by omega⟩
            have e1 : ((e' + 1 : Nat) : Int) - 1 = (e' : Int) := by omega
            rw [e1] at hb
            have hke : k = (e' : Int) := by omega
            subst hke
            obtain ⟨g1, g2⟩ := loop_ge (fun x hx => tree_le' G x hx) ks (b : Int) a h (by omega)
            obtain ⟨_, _, g3⟩ := loop_back (fun x hx _ => tree_le' G x hx) ks [] (b : Int) a (by omega) h (by omega)
            have hd1 : arr1 e' = d := by simpa using hk (e' : Int) List.mem_cons_self
            obtain ⟨p1, p2⟩ := proc_tree hG m e' b arr1 (by omega) (by omega) hb
            have hs : e' + 1 - a = (e' + 1 - b) + (b - a) := by omega
            rw [hs]
            constructor
            · rintro ⟨x, hx, hx2⟩
              rw [proc_add]
              by_cases hz : 12 < d + deep G e'
              · rw [p1 (by rw [hd1]; exact hz)]; rfl
              · obtain ⟨arr2, q1, q2⟩ := p2 (by rw [hd1]; omega)
                rw [q1]
                rcases List.mem_cons.1 hx with rfl | hx
                · exact absurd hx2 hz
                · rw [show e' + 1 - (e' + 1 - b) = b by omega]
                  exact (ih b arr2 d (by omega) h (fun y hy => by rw [q2 _ (by have := g3 y hy; omega)]; exact hk y (List.mem_cons_of_mem _ hy))).1 ⟨x, hx, hx2⟩
            · intro hall
              rw [proc_add]
              obtain ⟨arr2, q1, q2⟩ := p2 (by rw [hd1]; exact hall _ List.mem_cons_self)
              rw [q1]
              obtain ⟨arr3, r1, r2⟩ := (ih b arr2 d (by omega) h (fun y hy => by rw [q2 _ (by have := g3 y hy; omega)]; exact hk y (List.mem_cons_of_mem _ hy))).2 (fun y hy => hall y (List.mem_cons_of_mem _ hy))
              refine ⟨arr3, ?_, fun j hj => by rw [r2 j hj, q2 j (by omega)]⟩
              rw [show e' + 1 - (e' + 1 - b) = b by omega]
              exact r1
    have hti : (i : Int).toNat = i := by simp
    rw [hti] at hd ht
    obtain ⟨g1, g2⟩ := loop_ge (fun x hx => tree_le' G x hx) _ (i : Int) a ht (by omega)
    have hs : i + 1 - a = (i - a) + 1 := by omega
    rw [hs, proc, show i + 1 - 1 = i by omega]
    by_cases h12 : 12 ≤ arr i
    · have e1 : stepA G arr i = none := by rw [stepA, if_pos h12]
      rw [e1]
      exact ⟨fun _ => rfl, fun h => by omega⟩
    · have e1 : stepA G arr i = some (fun j : Nat => if (j : Int) ∈ G i then arr i + 1 else arr j) := by rw [stepA, if_neg h12]
      rw [e1]
      have hk1 : ∀ k ∈ (G i).reverse, (fun j : Nat => if (j : Int) ∈ G i then arr i + 1 else arr j) k.toNat = arr i + 1 := fun k hk => by
        have hr := hG i hn k (List.mem_reverse.1 hk)
        show (if ((k.toNat : Nat) : Int) ∈ G i then arr i + 1 else arr k.toNat) = _
        rw [if_pos (by rw [Int.toNat_of_nonneg hr.1]; exact List.mem_reverse.1 hk)]
      obtain ⟨k1, k2⟩ := key _ i (fun j : Nat => if (j : Int) ∈ G i then arr i + 1 else arr j) (arr i + 1) (Nat.le_refl _) ht hk1
      constructor
      · intro h
        refine k1 ?_
        apply Classical.byContradiction
        intro hno
        have hle : maxL (deep G) 0 (G i) ≤ 11 - arr i := (maxL_le _ _ _).2 ⟨by omega, fun k hk => by
          apply Classical.byContradiction
          intro h3
          exact hno ⟨k, List.mem_reverse.2 hk, by omega⟩⟩
        omega
      · intro h
        have hle : maxL (deep G) 0 (G i) ≤ 11 - arr i := by omega
        have hal := ((maxL_le _ _ _).1 hle).2
        obtain ⟨arr', r1, r2⟩ := k2 (fun k hk => by have := hal k (List.mem_reverse.1 hk); omega)
        refine ⟨arr', r1, fun j hj => ?_⟩
        rw [r2 j hj]
        show (if (j : Int) ∈ G i then arr i + 1 else arr j) = _
        rw [if_neg]
        intro hm
        have := g2 _ (List.mem_reverse.2 hm)
        omega
/-- None stands too deep just where the whole is not. -/
theorem proc_deep {G : Nat → List Int} {n : Nat} (hG : InRange G (n + 1)) (ht : tree G n = 0) : (∃ a, proc G (fun _ => 0) (n + 1) (n + 1) = some a) ↔ deep G n ≤ 12 := by
  obtain ⟨h1, h2⟩ := proc_tree hG (n + 1) n 0 (fun _ => 0) (by omega) (by omega) (by simpa using ht)
  constructor
  · rintro ⟨a, ha⟩
    apply Classical.byContradiction
    intro h
    have := h1 (by simp; omega)
    rw [Nat.sub_zero, ha] at this
    cases this
  · intro h
    obtain ⟨a, ha, _⟩ := h2 (by simp; omega)
    exact ⟨a, by simpa using ha⟩
end Go.Proofs.YtfkklffdkpbibaaDoor
