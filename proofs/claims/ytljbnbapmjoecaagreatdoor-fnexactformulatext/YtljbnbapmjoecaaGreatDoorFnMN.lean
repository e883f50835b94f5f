import Derived.Test.YtljbnbapmjoecaaGreatDoorBase
namespace Go.Proofs.YtljbnbapmjoecaaGreatDoor

/-! ### Plain mathematics: nodes in the order of a walk that comes to the kids first -/

/-- The stack behind the first i nodes: roots that have none above them yet, the last one at the end. -/
def stk (G : Nat → List Int) : Nat → Option (List Int)
  | 0 => some []
  | i + 1 => match stk G i with
    | none => none
    | some s => if s.drop (s.length - (G i).length) = G i ∧ (G i).length ≤ s.length then some (s.take (s.length - (G i).length) ++ [(i : Int)]) else none
theorem stk_push {G : Nat → List Int} {i : Nat} {p : List Int} (h : stk G i = some (p ++ G i)) : stk G (i + 1) = some (p ++ [(i : Int)]) := by
  rw [stk, h]
  simp
theorem stk_split {G : Nat → List Int} {i : Nat} {s' : List Int} (h : stk G (i + 1) = some s') : ∃ p, stk G i = some (p ++ G i) ∧ s' = p ++ [(i : Int)] := by
  rw [stk] at h
  cases hs : stk G i with
  | none => rw [hs] at h; cases h
  | some s =>
    rw [hs] at h
    simp only at h
    split at h
    · rename_i hc
      refine ⟨s.take (s.length - (G i).length), ?_, (Option.some.inj h).symm⟩
      have h1 := List.take_append_drop (s.length - (G i).length) s
      rw [hc.1] at h1
      rw [h1]
    · cases h
theorem stk_none {G : Nat → List Int} {i j : Nat} (h : stk G i = none) (hij : i ≤ j) : stk G j = none := by
  induction hij with
  | refl => exact h
  | step _ ih => rw [stk, ih]

/-- What l3Tree answers: the first node of the tree whose root is i; its loop, from the kid behind which 'at' stands, over the kids from the last to the first. -/
def loopT (T : Int → Int) (at0 : Int) : List Int → Int
  | [] => at0 + 1
  | k :: ks => if at0 < 0 ∨ k ≠ at0 then -1 else if T at0 < 0 then -1 else loopT T (T at0 - 1) ks
def treeF (G : Nat → List Int) : Nat → Int → Int
  | 0, _ => -1
  | fuel + 1, i => loopT (treeF G fuel) (i - 1) (G i.toNat).reverse
/-- The trees of the roots s cover the first e nodes. -/
def Cov (T : Int → Int) : List Int → Int → Prop
  | [], e => e = 0
  | r :: s, e => e = r + 1 ∧ 0 ≤ r ∧ 0 ≤ T r ∧ T r ≤ r ∧ Cov T s (T r)
theorem Cov.nonneg {T : Int → Int} : ∀ {s : List Int} {e : Int}, Cov T s e → 0 ≤ e
  | [], _, h => by rw [Cov] at h; omega
  | r :: s, _, h => by rw [Cov] at h; omega
theorem Cov.mem {T : Int → Int} : ∀ {s : List Int} {e : Int}, Cov T s e → ∀ x ∈ s, 0 ≤ x ∧ x < e
  | [], _, _, x, hx => by cases hx
  | r :: s, e, h, x, hx => by
    rw [Cov] at h
    rcases List.mem_cons.1 hx with rfl | hx
    · omega
    · have := Cov.mem h.2.2.2.2 x hx; omega
/-- Kids that lie on the stack's top: the loop goes down to where their trees begin. -/
theorem loop_cov {T : Int → Int} : ∀ (ks s : List Int) (e : Int), Cov T (ks ++ s) e → ∃ a, loopT T (e - 1) ks = a ∧ 0 ≤ a ∧ a ≤ e ∧ Cov T s a
  | [], s, e, h => ⟨e, by simp [loopT], h.nonneg, Int.le_refl _, h⟩
  | k :: ks, s, e, h => by
    rw [List.cons_append, Cov] at h
    obtain ⟨rfl, h0, h1, h2, h3⟩ := h
    obtain ⟨a, ha, a0, a1, a2⟩ := loop_cov ks s _ h3
    refine ⟨a, ?_, a0, by omega, a2⟩
    rw [loopT, if_neg (by omega), show k + 1 - 1 = k by omega, if_neg (by omega)]
    exact ha
/-- The loop that comes to its end says that the kids lie there. -/
theorem loop_back {T : Int → Int} (hT : ∀ x, 0 ≤ x → 0 ≤ T x → T x ≤ x) : ∀ (ks s : List Int) (e a : Int), 0 ≤ e → loopT T (e - 1) ks = a → 0 ≤ a → (Cov T s a → Cov T (ks ++ s) e) ∧ a ≤ e ∧ (∀ k ∈ ks, 0 ≤ k ∧ k < e ∧ 0 ≤ T k)
  | [], s, e, a, _, h, ha => by
    rw [loopT] at h
    have : a = e := by omega
    subst this
    exact ⟨fun h => h, Int.le_refl _, fun k hk => by cases hk⟩
  | k :: ks, s, e, a, he, h, ha => by
    rw [loopT] at h
    split at h
    · omega
    · rename_i hc
      split at h
      · omega
      · rename_i hc2
        have hk : k = e - 1 := by omega
        rw [hk]
        have hle := hT (e - 1) (by omega) (by omega)
        obtain ⟨h1, h2, h3⟩ := loop_back hT ks s (T (e - 1)) a (by omega) h ha
        refine ⟨fun hc => ?_, by omega, fun x hx => ?_⟩
        · rw [List.cons_append, Cov]
          exact ⟨by omega, by omega, by omega, by omega, h1 hc⟩
        · rcases List.mem_cons.1 hx with rfl | hx
          · exact ⟨by omega, by omega, by omega⟩
          · have := h3 x hx; exact ⟨by omega, by omega, this.2.2⟩
theorem loop_congr {T T' : Int → Int} {B : Int} (hT : ∀ x, 0 ≤ x → x < B → T x = T' x) (hle : ∀ x, 0 ≤ x → x < B → T x ≤ x) : ∀ (ks : List Int) (at0 : Int), at0 < B → loopT T at0 ks = loopT T' at0 ks
  | [], _, _ => rfl
  | k :: ks, at0, h => by
    rw [loopT, loopT]
    by_cases hc : at0 < 0 ∨ k ≠ at0
    · rw [if_pos hc, if_pos hc]
    · have h0 : 0 ≤ at0 := by omega
      rw [if_neg hc, if_neg hc, ← hT at0 h0 h]
      by_cases h2 : T at0 < 0
      · rw [if_pos h2, if_pos h2]
      · have := hle at0 h0 h
        rw [if_neg h2, if_neg h2, loop_congr hT hle ks _ (by omega)]
theorem loop_le {T : Int → Int} (hle : ∀ x, 0 ≤ x → T x ≤ x) : ∀ (ks : List Int) (at0 : Int), loopT T at0 ks ≤ at0 + 1 ∨ loopT T at0 ks = -1
  | [], at0 => Or.inl (by rw [loopT]; omega)
  | k :: ks, at0 => by
    rw [loopT]
    split
    · exact Or.inr rfl
    · rename_i hc
      split
      · exact Or.inr rfl
      · rename_i h2
        have := hle at0 (by omega)
        rcases loop_le hle ks (T at0 - 1) with h | h
        · left; omega
        · exact Or.inr h
theorem tree_le (G : Nat → List Int) : ∀ (fuel : Nat) (x : Int), 0 ≤ x → treeF G fuel x ≤ x
  | 0, x, h => by rw [treeF]; omega
  | fuel + 1, x, h => by
    rw [treeF]
    rcases loop_le (tree_le G fuel) (G x.toNat).reverse (x - 1) with h1 | h1
    · omega
    · omega
theorem tree_fuel (G : Nat → List Int) : ∀ (f f' : Nat) (x : Int), 0 ≤ x → x < f → x < f' → treeF G f x = treeF G f' x
  | 0, _, x, h0, h, _ => by omega
  | _ + 1, 0, x, h0, _, h => by omega
  | f + 1, f' + 1, x, h0, h, h' => by
    rw [treeF, treeF]
    exact loop_congr (B := x) (fun y hy0 hy => tree_fuel G f f' y hy0 (by omega) (by omega)) (fun y hy0 _ => tree_le G f y hy0) _ _ (by omega)
/-- The tree of i, with fuel enough. -/
def tree (G : Nat → List Int) (i : Int) : Int := treeF G (i.toNat + 1) i
theorem tree_eq (G : Nat → List Int) (i : Int) (h : 0 ≤ i) : tree G i = loopT (tree G) (i - 1) (G i.toNat).reverse := by
  rw [tree, treeF]
  exact loop_congr (B := i) (fun y hy0 hy => tree_fuel G _ _ y hy0 (by omega) (by omega)) (fun y hy0 _ => tree_le G _ y hy0) _ _ (by omega)
theorem tree_le' (G : Nat → List Int) (i : Int) (h : 0 ≤ i) : tree G i ≤ i := tree_le G _ i h

/-- A stack covers the nodes so far. -/
theorem stk_cov (G : Nat → List Int) : ∀ (i : Nat) (s : List Int), stk G i = some s → Cov (tree G) s.reverse i ∧ (∀ j, j < i → ∀ k ∈ G j, 0 ≤ k ∧ k < j)
  | 0, s, h => by
    rw [stk] at h
    cases h
    exact ⟨rfl, fun j hj => by omega⟩
  | i + 1, s', h => by
    obtain ⟨p, hp, rfl⟩ := stk_split h
    obtain ⟨hc, hk⟩ := stk_cov G i _ hp
    rw [List.reverse_append] at hc
    obtain ⟨a, ha, a0, a1, a2⟩ := loop_cov _ _ _ hc
    have ht : tree G i = a := by rw [tree_eq G i (by omega)]; simpa using ha
    refine ⟨?_, fun j hj => ?_⟩
    · rw [List.reverse_append]
      show Cov (tree G) ((i : Int) :: p.reverse) _
      rw [Cov, ht]
      exact ⟨by omega, by omega, a0, a1, a2⟩
    · by_cases e : j = i
      · subst e
        intro k hk'
        exact hc.mem k (List.mem_append_left _ (List.mem_reverse.2 hk'))
      · exact hk j (by omega)
/-- A tree that is one is pushed as one root. -/
theorem tree_stk (G : Nat → List Int) : ∀ (m : Nat) (i : Nat) (a : Nat) (p : List Int), i < m → tree G i = (a : Int) → stk G a = some p → stk G (i + 1) = some (p ++ [(i : Int)])
  | 0, i, _, _, h, _, _ => by omega
  | m + 1, i, a, p, hi, ht, hp => by
    -- the kids, from the last to the first, each a tree
    have key : ∀ (ks : List Int) (e : Nat), e ≤ i → loopT (tree G) ((e : Int) - 1) ks = (a : Int) → stk G e = some (p ++ ks.reverse) := by
      intro ks
      induction ks with
      | nil =>
        intro e he h
        rw [loopT] at h
        obtain rfl : e = a := by omega
        simpa using hp
      | cons k ks ih =>
        intro e he h
        rw [loopT] at h
        split at h
        · omega
        · rename_i hc
          split at h
          · omega
          · rename_i h2
            have hle := tree_le' G ((e : Int) - 1) (by omega)
            obtain ⟨b, hb⟩ : ∃ b : Nat, tree G ((e : Int) - 1) = (b : Int) := ⟨(tree G ((e : Int) - 1)).toNat, by omega⟩
            rw [hb] at h hle
            have h3 := ih b (by omega) h
            obtain ⟨e', rfl⟩ : ∃ e', e = e' + 1 := ⟨e - 1, by omega⟩
            have e1 : ((e' + 1 : Nat) : Int) - 1 = (e' : Int) := by omega
            rw [e1] at hb
            have h4 := tree_stk G m e' b _ (by omega) hb h3
            rw [h4, List.reverse_cons, List.append_assoc]
            have : k = (e' : Int) := by omega
            rw [this]
    rw [tree_eq G i (by omega)] at ht
    have h5 := key _ i (Nat.le_refl _) (by simpa using ht)
    rw [List.reverse_reverse] at h5
    exact stk_push h5
/-- The stack ends in one root just where the whole is a tree over all nodes, and the kids then lie ahead. -/
theorem stk_tree (G : Nat → List Int) (n : Nat) : (∃ x, stk G (n + 1) = some [x]) ↔ tree G n = 0 := by
  constructor
  · rintro ⟨x, h⟩
    obtain ⟨p, hp, e⟩ := stk_split h
    obtain ⟨hc, _⟩ := stk_cov G (n + 1) _ h
    have hp0 : p = [] ∧ x = (n : Int) := by
      cases p with
      | nil => simp at e; exact ⟨rfl, e⟩
      | cons y p => cases p <;> simp at e
    obtain ⟨rfl, rfl⟩ := hp0
    have hc' : Cov (tree G) [(n : Int)] ((n + 1 : Nat) : Int) := hc
    rw [Cov, Cov] at hc'
    omega
  · intro h
    exact ⟨_, by simpa using tree_stk G (n + 1) n 0 [] (by omega) (by simpa using h) rfl⟩
end Go.Proofs.YtljbnbapmjoecaaGreatDoor
namespace Go.Proofs.YtljbnbapmjoecaaGreatDoor

/-! ### How deep a tree is, from below and from above -/
def maxL (D : Int → Int) (d : Int) (ks : List Int) : Int := ks.foldl (fun d k => max d (D k)) d
theorem maxL_le {D : Int → Int} : ∀ (ks : List Int) (d b : Int), maxL D d ks ≤ b ↔ d ≤ b ∧ ∀ k ∈ ks, D k ≤ b
  | [], d, b => by simp [maxL]
  | k :: ks, d, b => by
    show maxL D (max d (D k)) ks ≤ b ↔ _
    rw [maxL_le ks]
    simp only [List.mem_cons, forall_eq_or_imp]
    constructor
    · rintro ⟨h1, h2⟩; exact ⟨by omega, by omega, h2⟩
    · rintro ⟨h1, h2, h3⟩; exact ⟨by omega, h3⟩
theorem maxL_congr {D D' : Int → Int} : ∀ (ks : List Int) (d : Int), (∀ k ∈ ks, D k = D' k) → maxL D d ks = maxL D' d ks
  | [], _, _ => rfl
  | k :: ks, d, h => by
    show maxL D (max d (D k)) ks = maxL D' (max d (D' k)) ks
    rw [h k List.mem_cons_self]
    exact maxL_congr ks _ (fun x hx => h x (List.mem_cons_of_mem _ hx))
def deepF (G : Nat → List Int) : Nat → Int → Int
  | 0, _ => 1
  | fuel + 1, i => maxL (deepF G fuel) 0 (G i.toNat) + 1
def InRange (G : Nat → List Int) (n : Nat) : Prop := ∀ j, j < n → ∀ k ∈ G j, 0 ≤ k ∧ k < (j : Int)
theorem deep_fuel {G : Nat → List Int} {n : Nat} (hG : InRange G n) : ∀ (f f' : Nat) (x : Int), 0 ≤ x → x < n → x < f → x < f' → deepF G f x = deepF G f' x
  | 0, _, x, h0, _, h, _ => by omega
  | _ + 1, 0, x, h0, _, _, h => by omega
  | f + 1, f' + 1, x, h0, hn, h, h' => by
    rw [deepF, deepF, maxL_congr _ _ (fun k hk => ?_)]
    have := hG x.toNat (by omega) k hk
    exact deep_fuel hG f f' k (by omega) (by omega) (by omega) (by omega)
def deep (G : Nat → List Int) (i : Int) : Int := deepF G (i.toNat + 1) i
theorem deep_eq {G : Nat → List Int} {n : Nat} (hG : InRange G n) (i : Int) (h : 0 ≤ i) (hn : i < n) : deep G i = maxL (deep G) 0 (G i.toNat) + 1 := by
  rw [deep, deepF, maxL_congr _ _ (fun k hk => ?_)]
  have := hG i.toNat (by omega) k hk
  exact deep_fuel hG _ _ k (by omega) (by omega) (by omega) (by omega)
theorem maxL_ge {D : Int → Int} (ks : List Int) (d : Int) : d ≤ maxL D d ks := ((maxL_le ks d _).1 (Int.le_refl _)).1
theorem deep_pos (G : Nat → List Int) (i : Int) : 1 ≤ deep G i := by
  rw [deep, deepF]
  have := maxL_ge (D := deepF G i.toNat) (G i.toNat) 0
  omega

def stepA (G : Nat → List Int) (arr : Nat → Int) (i : Nat) : Option (Nat → Int) := if 12 ≤ arr i then none else some (fun j => if (j : Int) ∈ G i then arr i + 1 else arr j)
def proc (G : Nat → List Int) : (Nat → Int) → Nat → Nat → Option (Nat → Int)
  | arr, _, 0 => some arr
  | arr, e, t + 1 => match stepA G arr (e - 1) with
    | none => none
    | some a => proc G a (e - 1) t
theorem proc_add (G : Nat → List Int) : ∀ (s t : Nat) (arr : Nat → Int) (e : Nat), proc G arr e (s + t) = (proc G arr e s).bind fun a => proc G a (e - s) t
  | 0, t, arr, e => by rw [Nat.zero_add]; rfl
  | s + 1, t, arr, e => by
    rw [show s + 1 + t = (s + t) + 1 by omega, proc, proc]
    cases stepA G arr (e - 1) with
    | none => rfl
    | some a =>
      show proc G a (e - 1) (s + t) = _
      rw [proc_add G s t a (e - 1), show e - 1 - s = e - (s + 1) by omega]
theorem loop_ge {T : Int → Int} (hT : ∀ x, 0 ≤ x → T x ≤ x) : ∀ (ks : List Int) (e a : Int), loopT T (e - 1) ks = a → 0 ≤ a → a ≤ e ∧ ∀ k ∈ ks, a ≤ k
  | [], e, a, h, _ => ⟨by rw [loopT] at h; omega, fun k hk => by cases hk⟩
  | k :: ks, e, a, h, ha => by
    rw [loopT] at h
    split at h
    · omega
    · rename_i hc
      split at h
      · omega
      · have hle := hT (e - 1) (by omega)
        obtain ⟨h1, h2⟩ := loop_ge hT ks (T (e - 1)) a h ha
        refine ⟨by omega, fun x hx => ?_⟩
        rcases List.mem_cons.1 hx with rfl | hx
        · omega
        · exact h2 x hx
theorem proc_tree {G : Nat → List Int} {n : Nat} (hG : InRange G n) : ∀ (m i a : Nat) (arr : Nat → Int), i < m → i < n → tree G i = (a : Int) →
    (12 < arr i + deep G i → proc G arr (i + 1) (i + 1 - a) = none) ∧ (arr i + deep G i ≤ 12 → ∃ arr', proc G arr (i + 1) (i + 1 - a) = some arr' ∧ ∀ j, j < a → arr' j = arr j)
  | 0, i, _, _, h, _, _ => by omega
  | m + 1, i, a, arr, hi, hn, ht => by
    have htl : tree G i ≤ i := tree_le' G i (by omega)
    have hd := deep_eq hG i (by omega) (by omega)
    have hdp := deep_pos G i
    rw [tree_eq G i (by omega)] at ht
    have key : ∀ (ks : List Int) (e : Nat) (arr1 : Nat → Int) (d : Int), e ≤ i → loopT (tree G) ((e : Int) - 1) ks = (a : Int) → (∀ k ∈ ks, arr1 k.toNat = d) →
        ((∃ k ∈ ks, 12 < d + deep G k) → proc G arr1 e (e - a) = none) ∧ ((∀ k ∈ ks, d + deep G k ≤ 12) → ∃ arr', proc G arr1 e (e - a) = some arr' ∧ ∀ j, j < a → arr' j = arr1 j) := by
      intro ks
      induction ks with
      | nil =>
        intro e arr1 d he h _
        rw [loopT] at h
        obtain rfl : e = a := by omega
        rw [Nat.sub_self]
        refine ⟨?_, fun _ => ⟨arr1, rfl, fun _ _ => rfl⟩⟩
        rintro ⟨k, hk, _⟩
        cases hk
      | cons k ks ih =>
        intro e arr1 d he h hk
        rw [loopT] at h
        split at h
        · omega
        · rename_i hc
          split at h
          · omega
          · rename_i h2
            have hle := tree_le' G ((e : Int) - 1) (by omega)
            obtain ⟨b, hb⟩ : ∃ b : Nat, tree G ((e : Int) - 1) = (b : Int) := ⟨(tree G ((e : Int) - 1)).toNat, by omega⟩
            rw [hb] at h hle
            obtain ⟨e', rfl⟩ : ∃ e', e = e' + 1 := ⟨e - 1, by omega⟩
            have e1 : ((e' + 1 : Nat) : Int) - 1 = (e' : Int) := by omega
            rw [e1] at hb
            have hke : k = (e' : Int) := by omega
            subst hke
            obtain ⟨g1, g2⟩ := loop_ge (fun x hx => tree_le' G x hx) ks (b : Int) a h (by omega)
            obtain ⟨_, _, g3⟩ := loop_back (fun x hx _ => tree_le' G x hx) ks [] (b : Int) a (by omega) h (by omega)
            have hd1 : arr1 e' = d := by simpa using hk (e' : Int) List.mem_cons_self
            obtain ⟨p1, p2⟩ := proc_tree hG m e' b arr1 (by omega) (by omega) hb
            have hs : e' + 1 - a = (e' + 1 - b) + (b - a) := by omega
            rw [hs]
            constructor
            · rintro ⟨x, hx, hx2⟩
              rw [proc_add]
              by_cases hz : 12 < d + deep G e'
              · rw [p1 (by rw [hd1]; exact hz)]; rfl
              · obtain ⟨arr2, q1, q2⟩ := p2 (by rw [hd1]; omega)
                rw [q1]
                rcases List.mem_cons.1 hx with rfl | hx
                · exact absurd hx2 hz
                · rw [show e' + 1 - (e' + 1 - b) = b by omega]
                  exact (ih b arr2 d (by omega) h (fun y hy => by rw [q2 _ (by have := g3 y hy; omega)]; exact hk y (List.mem_cons_of_mem _ hy))).1 ⟨x, hx, hx2⟩
            · intro hall
              rw [proc_add]
              obtain ⟨arr2, q1, q2⟩ := p2 (by rw [hd1]; exact hall _ List.mem_cons_self)
              rw [q1]
              obtain ⟨arr3, r1, r2⟩ := (ih b arr2 d (by omega) h (fun y hy => by rw [q2 _ (by have := g3 y hy; omega)]; exact hk y (List.mem_cons_of_mem _ hy))).2 (fun y hy => hall y (List.mem_cons_of_mem _ hy))
              refine ⟨arr3, ?_, fun j hj => by rw [r2 j hj, q2 j (by omega)]⟩
              rw [show e' + 1 - (e' + 1 - b) = b by omega]
              exact r1
    have hti : (i : Int).toNat = i := by simp
    rw [hti] at hd ht
    obtain ⟨g1, g2⟩ := loop_ge (fun x hx => tree_le' G x hx) _ (i : Int) a ht (by omega)
    have hs : i + 1 - a = (i - a) + 1 := by omega
    rw [hs, proc, show i + 1 - 1 = i by omega]
    by_cases h12 : 12 ≤ arr i
    · have e1 : stepA G arr i = none := by rw [stepA, if_pos h12]
      rw [e1]
      exact ⟨fun _ => rfl, fun h => by omega⟩
    · have e1 : stepA G arr i = some (fun j : Nat => if (j : Int) ∈ G i then arr i + 1 else arr j) := by rw [stepA, if_neg h12]
      rw [e1]
      have hk1 : ∀ k ∈ (G i).reverse, (fun j : Nat => if (j : Int) ∈ G i then arr i + 1 else arr j) k.toNat = arr i + 1 := fun k hk => by
        have hr := hG i hn k (List.mem_reverse.1 hk)
        show (if ((k.toNat : Nat) : Int) ∈ G i then arr i + 1 else arr k.toNat) = _
        rw [if_pos (by rw [Int.toNat_of_nonneg hr.1]; exact List.mem_reverse.1 hk)]
      obtain ⟨k1, k2⟩ := key _ i (fun j : Nat => if (j : Int) ∈ G i then arr i + 1 else arr j) (arr i + 1) (Nat.le_refl _) ht hk1
      constructor
      · intro h
        refine k1 ?_
        apply Classical.byContradiction
        intro hno
        have hle : maxL (deep G) 0 (G i) ≤ 11 - arr i := (maxL_le _ _ _).2 ⟨by omega, fun k hk => by
          apply Classical.byContradiction
          intro h3
          exact hno ⟨k, List.mem_reverse.2 hk, by omega⟩⟩
        omega
      · intro h
        have hle : maxL (deep G) 0 (G i) ≤ 11 - arr i := by omega
        have hal := ((maxL_le _ _ _).1 hle).2
        obtain ⟨arr', r1, r2⟩ := k2 (fun k hk => by have := hal k (List.mem_reverse.1 hk); omega)
        refine ⟨arr', r1, fun j hj => ?_⟩
        rw [r2 j hj]
        show (if (j : Int) ∈ G i then arr i + 1 else arr j) = _
        rw [if_neg]
        intro hm
        have := g2 _ (List.mem_reverse.2 hm)
        omega
/-- None stands too deep just where the whole is not. -/
theorem proc_deep {G : Nat → List Int} {n : Nat} (hG : InRange G (n + 1)) (ht : tree G n = 0) : (∃ a, proc G (fun _ => 0) (n + 1) (n + 1) = some a) ↔ deep G n ≤ 12 := by
  obtain ⟨h1, h2⟩ := proc_tree hG (n + 1) n 0 (fun _ => 0) (by omega) (by omega) (by simpa using ht)
  constructor
  · rintro ⟨a, ha⟩
    apply Classical.byContradiction
    intro h
    have := h1 (by simp; omega)
    rw [Nat.sub_zero, ha] at this
    cases this
  · intro h
    obtain ⟨a, ha, _⟩ := h2 (by simp; omega)
    exact ⟨a, by simpa using ha⟩
end Go.Proofs.YtljbnbapmjoecaaGreatDoor
