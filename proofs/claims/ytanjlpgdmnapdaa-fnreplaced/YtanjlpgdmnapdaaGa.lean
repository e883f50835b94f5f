import Derived.Test.YtanjlpgdmnapdaaFiA
import Derived.Laws.AppendOwnNone
import Derived.WideShapes
import Derived.Deep.AppendSrc
namespace Go.Proofs.Ytanjlpgdmnapdaa
open Go.RowKit
set_option linter.unusedSimpArgs false
set_option linter.unusedVariables false

theorem fiL_one (x : FI) : ∀ u ∈ fiL x, u.oneCell' = true := by
  intro u hu
  simp only [fiL, List.mem_cons, List.not_mem_nil, or_false] at hu
  rcases hu with rfl | rfl <;> rfl
theorem flat_one_fi (L : List FI) : ∀ u ∈ flat fiL L, u.oneCell' = true := by
  intro u hu
  obtain ⟨x, _, hx⟩ := List.mem_flatMap.1 hu
  exact fiL_one x u hx
/-- The cells of a row, one behind the other. -/
theorem fi_cells {W : World} {b o : Nat} {L : List FI} (h : FiRow W (some ⟨b, o, none⟩) L) : ∀ j u, (flat fiL L)[j]? = some u → W.cell? ((⟨b, o, none⟩ : Addr).add j) = some u := by
  intro j u hu
  have hj : j < L.length * 2 := by rw [← flat_len fiL_len]; exact (List.getElem?_eq_some_iff.1 hu).1
  have e : j = (j / 2) * 2 + j % 2 := by omega
  have hm : j % 2 < 2 := by omega
  rw [e, flat_at fiL_len _ hm] at hu
  cases hx : L[j / 2]? with
  | none => rw [hx] at hu; cases hu
  | some x =>
    rw [hx] at hu
    obtain ⟨b', o', e', _, hc⟩ := h.2 _ x hx
    cases e'
    have := hc _ u hu
    have e2 : (⟨b, o, none⟩ : Addr).add j = ⟨b, o + j / 2 * 2 + j % 2, none⟩ := by
      rw [Go.WideShapes.add_plain]
      congr 1
      omega
    rw [e2]; exact this
section
variable {ops : Array Oper} {rest : List Oper} {o : Oper} {a : Act} {Q : Exit → Act → World → Prop}
/-- 'append(empty, list...)' -/
theorem wpList_copy_fi {W : World} (hgd : o.guard = none) (s x : Operand) (ho : o.op = .call { callee := .builtin .append, args := #[s, x], argTypes := #[24, 24] }) (B : Nat) (hB : B ≤ W.heap.size) (v : Value) (hs : a.eval s = v) (hown : W.ownsRow B 75 2 v 0 [])
    {A : Option Addr} {n c : Nat} {L : List FI} (hx : a.eval x = .slice A n c) (hL : L.length = n) (h0 : A = none → c = 0) (hR : FiRow W A L) (hn : n ≤ 1073741824)
    (h : ∀ A' c' w', w'.ownsRow B 75 2 (.slice A' n c') n (flat fiL L) → (A' = none → c' = 0) → W.grownBy w' v.ownBlock → wpList Try.prog ops Q rest (a.put o.dst (.slice A' n c')) w') : wpList Try.prog ops Q (o :: rest) a W := by
  subst hL
  obtain ⟨i0, hi0, hz0, hz1, hz2⟩ := info_parts infoFi
  cases A with
  | none =>
    have hk := h0 rfl
    subst hk
    have hl : L = [] := by
      cases L with
      | nil => rfl
      | cons y ys => obtain ⟨b, o', e, _⟩ := hR.2 0 y (by simp); cases e
    subst hl
    obtain ⟨A', cap', rfl, _, _⟩ := own_shape hown
    exact wpList_append_own_none hgd s x 24 ho B 75 i0 2 Try.underlying24 hi0 _ 0 [] hs hown hx (h _ _ W hown (fun e => by
      rcases hown.2 with ⟨e2, _⟩ | ⟨g, cap, cur, e2, _⟩
      · cases e2; rfl
      · cases e2; cases e) (World.grownBy.refl _ _))
  | some ad =>
    refine wpList_append_own W hgd s x 24 ho B 75 i0 (.agg #[.string ⟨#[]⟩, .string ⟨#[]⟩]) 2 32 Try.underlying24 hi0 hz0 hz1 hz2 rfl (by decide) v 0 [] hs hown ad L.length c (flat fiL L) hx (flat_len fiL_len L) ?_ (flat_one_fi L) ?_ ?_ hB ?_
    · intro j u hj
      cases L with
      | nil => simp [flat] at hj
      | cons y ys =>
        obtain ⟨b, o', e, _⟩ := hR.2 0 y (by simp)
        cases e
        exact fi_cells hR j u hj
    · unfold maxLen; omega
    · omega
    · intro v' w' ho' hg' hnil
      rw [Nat.zero_add, List.nil_append] at ho'
      obtain ⟨A', cap', rfl, _, _⟩ := own_shape ho'
      exact h A' cap' w' ho' (fun e => by
        rcases ho'.2 with ⟨e2, _⟩ | ⟨g, cap, cur, e2, _⟩
        · simp only [Value.slice.injEq] at e2; exact e2.2.2
        · simp only [Value.slice.injEq] at e2; rw [e] at e2; cases e2.1) hg'
end
theorem listCopy_fi {A : Option Addr} {n c : Nat} {L : List FI} (w : World) (h : FiRow w A L) (hL : L.length = n) (h0 : A = none → c = 0) (hn : n ≤ 1073741824) :
    Calls Try.prog 86 #[.slice A n c] w fun e w' => ∃ A' c', e = .returned (.slice A' n c') ∧ w'.ownsRow w.heap.size 75 2 (.slice A' n c') n (flat fiL L) ∧ (A' = none → c' = 0) ∧ Below w.heap.size w w' := by
  have HR : Hid (FiRow w A L) := h
  have HL : Hid (L.length = n) := hL
  have H0 : Hid (A = none → c = 0) := h0
  clear h hL h0
  go_enter Try.func86, Try.ntmps86
  go_wp2_with (first
    | (at_builtin; refine wpList_copy_fi rfl _ _ rfl w.heap.size (Nat.le_refl _) (.slice none 0 0) rfl ⟨rfl, Or.inl ⟨rfl, rfl⟩⟩ rfl HL.out H0.out HR.out hn ?_)
    | go_in)
  intro A' c' w' ho hz hg
  have HO : Hid (w'.ownsRow w.heap.size 75 2 (.slice A' n c') n (flat fiL L)) := ho
  have HZ : Hid (A' = none → c' = 0) := hz
  have HB : Hid (Below w.heap.size w w') := (Below.refl _ _).grown hg (Nat.le_refl _) (fun q hq => by cases hq)
  clear ho hz hg
  go_wp2_with fail
  go_ret
  exact ⟨_, _, rfl, HO.out, HZ.out, HB.out⟩
end Go.Proofs.Ytanjlpgdmnapdaa
namespace Go.Proofs.Ytanjlpgdmnapdaa
open Go.RowKit
set_option linter.unusedSimpArgs false
set_option linter.unusedVariables false

theorem step_copy_fi {W : World} {ops : Array Oper} {o : Oper} {a : Act} {K : Act → World → Prop} {Q : Exit → Act → World → Prop} {E : Prop} (hgd : o.guard = none) (s x : Operand) (ho : o.op = .call { callee := .builtin .append, args := #[s, x], argTypes := #[24, 24] }) (B : Nat) (hB : B ≤ W.heap.size) (v : Value) (hs : a.eval s = v) (hown : W.ownsRow B 75 2 v 0 [])
    {A : Option Addr} {n c : Nat} {L : List FI} (hx : a.eval x = .slice A n c) (hL : L.length = n) (h0 : A = none → c = 0) (hR : FiRow W A L) (hn : n ≤ 1073741824)
    (h : ∀ A' c' w', w'.ownsRow B 75 2 (.slice A' n c') n (flat fiL L) → (A' = none → c' = 0) → W.grownBy w' v.ownBlock → K (a.put o.dst (.slice A' n c')) w') :
    if Region.wanted o (yielded ops a.tmps) = true then Oper.wp Try.prog o a W K Q else E := by
  have hw : Region.wanted o (yielded ops a.tmps) = true := by simp [Region.wanted, hgd]
  rw [if_pos hw]
  subst hL
  obtain ⟨i0, hi0, hz0, hz1, hz2⟩ := info_parts infoFi
  cases A with
  | none =>
    have hk := h0 rfl
    subst hk
    have hl : L = [] := by
      cases L with
      | nil => rfl
      | cons y ys => obtain ⟨b, o', e, _⟩ := hR.2 0 y (by simp); cases e
    subst hl
    obtain ⟨A', cap', rfl, _, _⟩ := own_shape hown
    have hrun := run_append_owned_none (P := Try.prog) (w := W) B 24 o.type 75 i0 2 Try.underlying24 hi0 _ 0 [] hown
    have hfin := h _ _ W hown (fun e => by
      rcases hown.2 with ⟨e2, _⟩ | ⟨g, cap, cur, e2, _⟩
      · cases e2; rfl
      · cases e2; cases e) (World.grownBy.refl _ _)
    unfold Oper.wp
    simp [execOp, ho, resolve, invoke, builtin, hs, hx, hrun, Result.andThen]
    exact hfin
  | some ad =>
    refine wp_append_own W s x 24 ho B 75 i0 (.agg #[.string ⟨#[]⟩, .string ⟨#[]⟩]) 2 32 Try.underlying24 hi0 hz0 hz1 hz2 rfl (by decide) v 0 [] hs hown ad L.length c (flat fiL L) hx (flat_len fiL_len L) ?_ (flat_one_fi L) ?_ ?_ hB ?_
    · intro j u hj
      cases L with
      | nil => simp [flat] at hj
      | cons y ys =>
        obtain ⟨b, o', e, _⟩ := hR.2 0 y (by simp)
        cases e
        exact fi_cells hR j u hj
    · unfold maxLen; omega
    · omega
    · intro v' w' ho' hg' hnil
      rw [Nat.zero_add, List.nil_append] at ho'
      obtain ⟨A', cap', rfl, _, _⟩ := own_shape ho'
      exact h A' cap' w' ho' (fun e => by
        rcases ho'.2 with ⟨e2, _⟩ | ⟨g, cap, cur, e2, _⟩
        · simp only [Value.slice.injEq] at e2; exact e2.2.2
        · simp only [Value.slice.injEq] at e2; rw [e] at e2; cases e2.1) hg'
end Go.Proofs.Ytanjlpgdmnapdaa
namespace Go.Proofs.Ytanjlpgdmnapdaa
open Go.RowKit
set_option linter.unusedSimpArgs false
set_option linter.unusedVariables false

set_option maxHeartbeats 1000000 in
theorem step_copy4_fi {W : World} {ops : Array Oper} {o : Oper} {a : Act} {K : Act → World → Prop} {Q : Exit → Act → World → Prop} {E : Prop} (hgd : o.guard = none) (s x : Operand) (ho : o.op = .call { callee := .builtin .append, args := #[s, x], argTypes := #[24, 24] }) (B g : Nat) (hB : B ≤ g) (hb : W.heap[g]? = some (.cells #[] 75 (0, 0))) (hs : a.eval s = .slice (some ⟨g, 0, none⟩) 0 0)
    {A : Option Addr} {n c : Nat} {L : List FI} (hx : a.eval x = .slice A n c) (hL : L.length = n) (h0 : A = none → c = 0) (hR : FiRow W A L) (hn : n ≤ 1073741824)
    (h : ∀ A' c' w', w'.ownsRow B 75 2 (.slice A' n c') n (flat fiL L) → Below W.heap.size W w' → K (a.put o.dst (.slice A' n c')) w') :
    if Region.wanted o (yielded ops a.tmps) = true then Oper.wp Try.prog o a W K Q else E := by
  have hw : Region.wanted o (yielded ops a.tmps) = true := by simp [Region.wanted, hgd]
  rw [if_pos hw]
  have hgl : g < W.heap.size := (Array.getElem?_eq_some_iff.1 hb).1
  have hown : W.ownsRow B 75 2 (.slice (some ⟨g, 0, none⟩) 0 0) 0 [] := ⟨by simp, Or.inr ⟨g, 0, #[], rfl, hB, hb, Nat.le_refl _, Nat.zero_le _, by simp, by simp⟩⟩
  obtain ⟨i0, hi0, hz0, hz1, hz2⟩ := info_parts infoFi
  subst hL
  by_cases hn0 : L = []
  · subst hn0
    cases A with
    | none =>
      have hk := h0 rfl
      subst hk
      have hrun := run_append_owned_none (P := Try.prog) (w := W) B 24 o.type 75 i0 2 Try.underlying24 hi0 _ 0 [] hown
      have hfin := h _ _ W hown (Below.refl _ _)
      unfold Oper.wp
      simp [execOp, ho, resolve, invoke, builtin, hs, hx, hrun, Result.andThen]
      exact hfin
    | some ad =>
      have hrun := run_append_room_src (P := Try.prog) W 24 24 o.type 75 i0 Try.underlying24 hi0 g 0 0 0 (.slice (some ad) 0 c) 0 [] (Src.ofSlice W Try.underlying24 ad 0 c [] (by simp) (fun j u hj => by simp at hj) (fun u hu => by simp at hu)) (Nat.le_refl _) (fun j hj => by simp at hj) (fun j hj => by simp at hj)
      have hfin := h _ _ W hown (Below.refl _ _)
      have hx' : a.eval x = .slice (some ad) 0 c := hx
      unfold Oper.wp
      simp [execOp, ho, resolve, invoke, builtin, hs, hx', hrun, Result.andThen]
      exact hfin
  · obtain ⟨y, ys, rfl⟩ := List.exists_cons_of_ne_nil hn0
    have hpos : 0 < (y :: ys).length := by simp
    obtain ⟨b, o', e1, _⟩ := hR.2 0 y (by simp)
    subst e1
    have hnews := fi_cells hR
    obtain ⟨v', w', hr, h2, h3, h4⟩ := run_append_own (P := Try.prog) W B 24 o.type 75 i0 (.agg #[.string ⟨#[]⟩, .string ⟨#[]⟩]) 2 32 Try.underlying24 hi0 hz0 hz1 hz2 rfl (by decide) (.slice none 0 0) 0 [] ⟨by simp, Or.inl ⟨rfl, rfl⟩⟩ ⟨b, o', none⟩ (y :: ys).length c (flat fiL (y :: ys)) (flat_len fiL_len _) hnews (flat_one_fi _) (by unfold maxLen; omega) (by omega) (by omega)
    have hsrc : Src Try.prog i0.size 24 (.slice (some ⟨b, o', none⟩) (y :: ys).length c) (y :: ys).length (flat fiL (y :: ys)) W := by
      rw [hz1]
      exact Src.ofSlice W Try.underlying24 ⟨b, o', none⟩ _ c _ (flat_len fiL_len _) hnews (flat_one_fi _)
    have g1 := run_append_grow_src (P := Try.prog) W 24 24 o.type 75 i0 (.agg #[.string ⟨#[]⟩, .string ⟨#[]⟩]) Try.underlying24 hi0 hz0 (some ⟨g, 0, none⟩) 0 0 [] (by have hld := run_loadCells_list (P := Try.prog) W.drew ⟨g, 0, none⟩ [] (fun j x hj => by simp at hj); simpa [Builtin.firstCells] using hld) _ _ _ hsrc (by omega) (by omega) (growslice_fits (by omega) (by rw [hz2]; omega))
    have g2 := run_append_grow_src (P := Try.prog) W 24 24 o.type 75 i0 (.agg #[.string ⟨#[]⟩, .string ⟨#[]⟩]) Try.underlying24 hi0 hz0 none 0 0 [] (by simp [Builtin.firstCells]) _ _ _ hsrc (by omega) (by omega) (growslice_fits (by omega) (by rw [hz2]; omega))
    have hrun := g1.trans (g2.symm.trans hr)
    rw [Nat.zero_add, List.nil_append] at h2
    obtain ⟨A', c', rfl, _, _⟩ := own_shape h2
    have hfin := h A' c' w' h2 ((Below.refl _ _).grown h3 (Nat.le_refl _) (fun q hq => by cases hq))
    unfold Oper.wp execOp
    simp only [ho, resolve, invoke, builtin, Sem.run_bind, Sem.run_pure, Result.andThen_ok, List.map_toArray, List.map_cons, List.map_nil, hs, hx, hrun]
    exact hfin
end Go.Proofs.Ytanjlpgdmnapdaa
