import Derived.Test.YtanjlpgdmnapdaaFiA
import Derived.Laws.AppendOwnNone
import Derived.WideShapes
namespace Go.Proofs.Ytanjlpgdmnapdaa
open Go.RowKit
set_option linter.unusedSimpArgs false
set_option linter.unusedVariables false

theorem fiL_one (x : FI) : ∀ u ∈ fiL x, u.oneCell' = true := by
  intro u hu
  simp only [fiL, List.mem_cons, List.not_mem_nil, or_false] at hu
  rcases hu with rfl | rfl <;> rfl
theorem flat_one_fi (L : List FI) : ∀ u ∈ flat fiL L, u.oneCell' = true := by
  intro u hu
  obtain ⟨x, _, hx⟩ := List.mem_flatMap.1 hu
  exact fiL_one x u hx
/-- The cells of a row, one behind the other. -/
theorem fi_cells {W : World} {b o : Nat} {L : List FI} (h : FiRow W (some ⟨b, o, none⟩) L) : ∀ j u, (flat fiL L)[j]? = some u → W.cell? ((⟨b, o, none⟩ : Addr).add j) = some u := by
  intro j u hu
  have hj : j < L.length * 2 := by rw [← flat_len fiL_len]; exact (List.getElem?_eq_some_iff.1 hu).1
  have e : j = (j / 2) * 2 + j % 2 := by omega
  have hm : j % 2 < 2 := by omega
  rw [e, flat_at fiL_len _ hm] at hu
  cases hx : L[j / 2]? with
  | none => rw [hx] at hu; cases hu
  | some x =>
    rw [hx] at hu
    obtain ⟨b', o', e', _, hc⟩ := h.2 _ x hx
    cases e'
    have := hc _ u hu
    have e2 : (⟨b, o, none⟩ : Addr).add j = ⟨b, o + j / 2 * 2 + j % 2, none⟩ := by
      rw [Go.WideShapes.add_plain]
      congr 1
      omega
    rw [e2]; exact this
section
variable {ops : Array Oper} {rest : List Oper} {o : Oper} {a : Act} {Q : Exit → Act → World → Prop}
/-- 'append(empty, list...)' -/
theorem wpList_copy_fi {W : World} (hgd : o.guard = none) (s x : Operand) (ho : o.op = .call { callee := .builtin .append, args := #[s, x], argTypes := #[24, 24] }) (B : Nat) (hB : B ≤ W.heap.size) (v : Value) (hs : a.eval s = v) (hown : W.ownsRow B 75 2 v 0 [])
    {A : Option Addr} {n c : Nat} {L : List FI} (hx : a.eval x = .slice A n c) (hL : L.length = n) (h0 : A = none → c = 0) (hR : FiRow W A L) (hn : n ≤ 1073741824)
    (h : ∀ A' c' w', w'.ownsRow B 75 2 (.slice A' n c') n (flat fiL L) → (A' = none → c' = 0) → W.grownBy w' v.ownBlock → wpList Try.prog ops Q rest (a.put o.dst (.slice A' n c')) w') : wpList Try.prog ops Q (o :: rest) a W := by
  subst hL
  obtain ⟨i0, hi0, hz0, hz1, hz2⟩ := info_parts infoFi
  cases A with
  | none =>
    have hk := h0 rfl
    subst hk
    have hl : L = [] := by
      cases L with
      | nil => rfl
      | cons y ys => obtain ⟨b, o', e, _⟩ := hR.2 0 y (by simp); cases e
    subst hl
    obtain ⟨A', cap', rfl, _, _⟩ := own_shape hown
    exact wpList_append_own_none hgd s x 24 ho B 75 i0 2 Try.underlying24 hi0 _ 0 [] hs hown hx (h _ _ W hown (fun e => by
      rcases hown.2 with ⟨e2, _⟩ | ⟨g, cap, cur, e2, _⟩
      · cases e2; rfl
      · cases e2; cases e) (World.grownBy.refl _ _))
  | some ad =>
    refine wpList_append_own W hgd s x 24 ho B 75 i0 (.agg #[.string ⟨#[]⟩, .string ⟨#[]⟩]) 2 32 Try.underlying24 hi0 hz0 hz1 hz2 rfl (by decide) v 0 [] hs hown ad L.length c (flat fiL L) hx (flat_len fiL_len L) ?_ (flat_one_fi L) ?_ ?_ hB ?_
    · intro j u hj
      cases L with
      | nil => simp [flat] at hj
      | cons y ys =>
        obtain ⟨b, o', e, _⟩ := hR.2 0 y (by simp)
        cases e
        exact fi_cells hR j u hj
    · unfold maxLen; omega
    · omega
    · intro v' w' ho' hg' hnil
      rw [Nat.zero_add, List.nil_append] at ho'
      obtain ⟨A', cap', rfl, _, _⟩ := own_shape ho'
      exact h A' cap' w' ho' (fun e => by
        rcases ho'.2 with ⟨e2, _⟩ | ⟨g, cap, cur, e2, _⟩
        · simp only [Value.slice.injEq] at e2; exact e2.2.2
        · simp only [Value.slice.injEq] at e2; rw [e] at e2; cases e2.1) hg'
end
theorem listCopy_fi {A : Option Addr} {n c : Nat} {L : List FI} (w : World) (h : FiRow w A L) (hL : L.length = n) (h0 : A = none → c = 0) (hn : n ≤ 1073741824) :
    Calls Try.prog 86 #[.slice A n c] w fun e w' => ∃ A' c', e = .returned (.slice A' n c') ∧ w'.ownsRow w.heap.size 75 2 (.slice A' n c') n (flat fiL L) ∧ (A' = none → c' = 0) ∧ Below w.heap.size w w' := by
  have HR : Hid (FiRow w A L) := h
  have HL : Hid (L.length = n) := hL
  have H0 : Hid (A = none → c = 0) := h0
  clear h hL h0
  go_enter Try.func86, Try.ntmps86
  go_wp2_with (first
    | (at_builtin; refine wpList_copy_fi rfl _ _ rfl w.heap.size (Nat.le_refl _) (.slice none 0 0) rfl ⟨rfl, Or.inl ⟨rfl, rfl⟩⟩ rfl HL.out H0.out HR.out hn ?_)
    | go_in)
  intro A' c' w' ho hz hg
  have HO : Hid (w'.ownsRow w.heap.size 75 2 (.slice A' n c') n (flat fiL L)) := ho
  have HZ : Hid (A' = none → c' = 0) := hz
  have HB : Hid (Below w.heap.size w w') := (Below.refl _ _).grown hg (Nat.le_refl _) (fun q hq => by cases hq)
  clear ho hz hg
  go_wp2_with fail
  go_ret
  exact ⟨_, _, rfl, HO.out, HZ.out, HB.out⟩
end Go.Proofs.Ytanjlpgdmnapdaa
