import Derived.Test.YtanjlpgdmnapdaaDpC
namespace Go.Proofs.Ytanjlpgdmnapdaa
open Go.RowKit
set_option linter.unusedSimpArgs false
set_option linter.unusedVariables false

theorem step_copy_dp {W : World} {ops : Array Oper} {o : Oper} {a : Act} {K : Act → World → Prop} {Q : Exit → Act → World → Prop} {E : Prop} (hgd : o.guard = none) (s x : Operand) (ho : o.op = .call { callee := .builtin .append, args := #[s, x], argTypes := #[25, 25] }) (B : Nat) (hB : B ≤ W.heap.size) (v : Value) (hs : a.eval s = v) (hown : W.ownsRow B 36 4 v 0 [])
    {A : Option Addr} {n c : Nat} {L : List DP} (hx : a.eval x = .slice A n c) (hL : L.length = n) (h0 : A = none → c = 0) (hR : DpRow W A L) (hn : n ≤ 1073741824)
    (h : ∀ A' c' w', w'.ownsRow B 36 4 (.slice A' n c') n (flat dpL L) → (A' = none → c' = 0) → W.grownBy w' v.ownBlock → K (a.put o.dst (.slice A' n c')) w') :
    if Region.wanted o (yielded ops a.tmps) = true then Oper.wp Try.prog o a W K Q else E := by
  have hw : Region.wanted o (yielded ops a.tmps) = true := by simp [Region.wanted, hgd]
  rw [if_pos hw]
  subst hL
  obtain ⟨i0, hi0, hz0, hz1, hz2⟩ := info_parts infoDp
  cases A with
  | none =>
    have hk := h0 rfl
    subst hk
    have hl : L = [] := by
      cases L with
      | nil => rfl
      | cons y ys => obtain ⟨b, o', e, _⟩ := hR.2 0 y (by simp); cases e
    subst hl
    obtain ⟨A', cap', rfl, _, _⟩ := own_shape hown
    have hrun := run_append_owned_none (P := Try.prog) (w := W) B 25 o.type 36 i0 4 Try.underlying25 hi0 _ 0 [] hown
    have hfin := h _ _ W hown (fun e => by
      rcases hown.2 with ⟨e2, _⟩ | ⟨g, cap, cur, e2, _⟩
      · cases e2; rfl
      · cases e2; cases e) (World.grownBy.refl _ _)
    unfold Oper.wp
    simp [execOp, ho, resolve, invoke, builtin, hs, hx, hrun, Result.andThen]
    exact hfin
  | some ad =>
    refine wp_append_own W s x 25 ho B 36 i0 (.agg #[.int .i64 0, .string ⟨#[]⟩, .string ⟨#[]⟩, .string ⟨#[]⟩]) 4 56 Try.underlying25 hi0 hz0 hz1 hz2 rfl (by decide) v 0 [] hs hown ad L.length c (flat dpL L) hx (flat_len dpL_len L) ?_ (flat_one_dp L) ?_ ?_ hB ?_
    · intro j u hj
      cases L with
      | nil => simp [flat] at hj
      | cons y ys =>
        obtain ⟨b, o', e, _⟩ := hR.2 0 y (by simp)
        cases e
        exact dp_cells hR j u hj
    · unfold maxLen; omega
    · omega
    · intro v' w' ho' hg' hnil
      rw [Nat.zero_add, List.nil_append] at ho'
      obtain ⟨A', cap', rfl, _, _⟩ := own_shape ho'
      exact h A' cap' w' ho' (fun e => by
        rcases ho'.2 with ⟨e2, _⟩ | ⟨g, cap, cur, e2, _⟩
        · simp only [Value.slice.injEq] at e2; exact e2.2.2
        · simp only [Value.slice.injEq] at e2; rw [e] at e2; cases e2.1) hg'
end Go.Proofs.Ytanjlpgdmnapdaa
