import Derived.Test.YtanjlpgdmnapdaaLdA
namespace Go.Proofs.Ytanjlpgdmnapdaa
open Go.RowKit Go.Maps
set_option linter.unusedSimpArgs false
set_option linter.unusedVariables false

/-! ### Ops one behind the other -/
theorem run_snoc {x : DP} {L : List FI} (h0 : doC x L = 0) : ∀ (a : List DP) (S : List FI), runO a S = some L → runO (a ++ [x]) S = some (doL x L)
  | [], S, hS => by cases hS; simp [runO, h0]
  | y :: r, S, hS => by
    simp only [runO, List.cons_append] at hS ⊢
    split at hS
    · rename_i hy
      rw [if_pos hy]; exact run_snoc h0 r _ hS
    · cases hS
theorem doK_zero {d : DK} {x : DP} (h : doK d x = 0) : doC x d.live = 0 ∧ ¬ 200 ≤ d.ops.length := by
  unfold doK at h
  split at h
  · cases h
  · rename_i hn; exact ⟨h, fun h2 => hn ⟨h, h2⟩⟩
theorem act_disk {d : DK} {x : DP} (hd : diskB d = true) (h : doK d x = 0) : diskB (acD d x) = true := by
  obtain ⟨h1, h2⟩ := doK_zero h
  obtain ⟨q1, q2, q3⟩ := disk_parts hd
  obtain ⟨f1, f2, f3⟩ := doC_zero h1
  rw [acD_yes h]
  have hr : ∃ L, runO d.ops d.safe = some L ∧ L = d.live := by
    simp only [diskB, Bool.and_eq_true] at hd
    have h4 := hd.2.2.2
    split at h4
    · rename_i L hL; exact ⟨L, hL, sameB_iff.1 h4⟩
    · cases h4
  obtain ⟨L, hL, rfl⟩ := hr
  have e1 : filesB (doL x d.live) = true := by rw [files_do q1 f1]; exact f3
  have e2 : runO (d.ops ++ [x]) d.safe = some (doL x d.live) := run_snoc h1 _ _ hL
  simp only [diskB, Bool.and_eq_true, decide_eq_true_eq]
  refine ⟨e1, q2, by rw [List.length_append]; simp; omega, ?_⟩
  rw [e2]
  exact sameB_iff.2 rfl
theorem files_lil {L : List FI} (h : filesB L = true) : ∀ x ∈ L, fiLil x := by
  obtain ⟨_, _, h3, h4⟩ := files_parts h
  intro x hx
  have h5 := h3 x hx
  have h6 := tot_mem hx
  unfold nameB at h5
  have h7 := of_decide_eq_true h5
  exact ⟨by omega, by omega⟩
theorem act_lil {d : DK} {x : DP} (hd : diskB d = true) (hl : DkLil d) (hx : dpLil x) (h : doK d x = 0) : DkLil (acD d x) := by
  have h9 := act_disk hd h
  obtain ⟨q1, q2, q3⟩ := disk_parts h9
  have h3 := (files_parts q1).1
  rw [acD_yes h] at *
  refine ⟨files_lil q1, hl.l2, ?_, by have := h3; show (doL x d.live).length ≤ _; dsimp only at this; omega, hl.n2, by have := q3; dsimp only at this; show (d.ops ++ [x]).length ≤ _; omega⟩
  intro y hy
  rcases List.mem_append.1 hy with hy | hy
  · exact hl.l3 y hy
  · rw [List.mem_singleton.1 hy]; exact hx
/-- The first m of some ops, done one behind the other. -/
def rpN (ops : List DP) (d : DK) : Nat → DK
  | 0 => d
  | m + 1 => match ops[m]? with | some x => acD (rpN ops d m) x | none => rpN ops d m
def rpOk (ops : List DP) (d : DK) (m : Nat) : Prop := ∀ j x, j < m → ops[j]? = some x → doK (rpN ops d j) x = 0
theorem rpN_step {ops : List DP} {d : DK} {m : Nat} {x : DP} (hx : ops[m]? = some x) : rpN ops d (m + 1) = acD (rpN ops d m) x := by
  rw [rpN, hx]
theorem rpOk_step {ops : List DP} {d : DK} {m : Nat} {x : DP} (h : rpOk ops d m) (hx : ops[m]? = some x) (h0 : doK (rpN ops d m) x = 0) : rpOk ops d (m + 1) := by
  intro j y hj hy
  by_cases e : j = m
  · subst e; rw [hx] at hy; cases hy; exact h0
  · exact h j y (by omega) hy
theorem rpOk_mono {ops : List DP} {d : DK} {m k : Nat} (h : rpOk ops d m) (hk : k ≤ m) : rpOk ops d k := fun j x hj hx => h j x (by omega) hx
theorem rp_disk {ops : List DP} {d : DK} (hd : diskB d = true) (hl : DkLil d) (ho : ∀ x ∈ ops, dpLil x) : ∀ m, m ≤ ops.length → rpOk ops d m → diskB (rpN ops d m) = true ∧ DkLil (rpN ops d m)
  | 0, _, _ => ⟨hd, hl⟩
  | m + 1, hm, h => by
    obtain ⟨h1, h2⟩ := rp_disk hd hl ho m (by omega) (rpOk_mono h (by omega))
    obtain ⟨x, hx⟩ := at_lt (L := ops) (t := m) rfl (by omega)
    have h0 := h m x (by omega) hx
    rw [rpN_step hx]
    exact ⟨act_disk h1 h0, act_lil h1 h2 (ho x (List.mem_of_getElem? hx)) h0⟩
/-- The first op that is refused, its code; 0: none. -/
def rpC (ops : List DP) (d : DK) : Nat → Int
  | 0 => 0
  | m + 1 => if rpC ops d m = 0 then (match ops[m]? with | some x => doK (rpN ops d m) x | none => 0) else rpC ops d m
theorem rpC_ok {ops : List DP} {d : DK} : ∀ {m : Nat}, rpOk ops d m → rpC ops d m = 0
  | 0, _ => rfl
  | m + 1, h => by
    rw [rpC, if_pos (rpC_ok (rpOk_mono h (by omega)))]
    cases hx : ops[m]? with
    | none => rfl
    | some x => exact h m x (by omega) hx
theorem rpC_stuck {ops : List DP} {d : DK} {j : Nat} (h : rpC ops d j ≠ 0) : ∀ m, rpC ops d (j + m) = rpC ops d j
  | 0 => rfl
  | m + 1 => by
    have := rpC_stuck h m
    rw [show j + (m + 1) = (j + m) + 1 by omega, rpC, if_neg (by rw [this]; exact h), this]
theorem rpC_at {ops : List DP} {d : DK} {j : Nat} {x : DP} (h : rpOk ops d j) (hx : ops[j]? = some x) : rpC ops d (j + 1) = doK (rpN ops d j) x := by
  rw [rpC, if_pos (rpC_ok h), hx]
theorem rpC_end {ops : List DP} {d : DK} {j n : Nat} {x : DP} (h : rpOk ops d j) (hx : ops[j]? = some x) (h0 : doK (rpN ops d j) x ≠ 0) (hn : ops.length = n) : rpC ops d n = doK (rpN ops d j) x := by
  have hl : j < ops.length := (List.getElem?_eq_some_iff.1 hx).1
  have h1 := rpC_at h hx
  have h2 := rpC_stuck (ops := ops) (d := d) (j := j + 1) (by rw [h1]; exact h0) (n - (j + 1))
  rw [show j + 1 + (n - (j + 1)) = n by omega] at h2
  rw [h2, h1]
def newS (s : ByteArray) : ByteArray := s ++ ⟨#[46, 110, 101, 119]⟩
def eS : ByteArray := ⟨#[]⟩
def rpA (s : ByteArray) : DP := ⟨3, newS s, ⟨#[]⟩, ⟨#[]⟩⟩
def rpB (s x : ByteArray) : DP := ⟨1, newS s, ⟨#[]⟩, x⟩
def rpR (s : ByteArray) : DP := ⟨2, newS s, s, ⟨#[]⟩⟩
def rpO (s x : ByteArray) (b : Bool) : List DP := if b then [rpA s, rpB s x, rpR s] else [rpB s x, rpR s]
def rpK (d : DK) (s x : ByteArray) : Int := if diskB d = true then rpC (rpO s x (hasB (newS s) d.live)) d (rpO s x (hasB (newS s) d.live)).length else 1
def rpD (d : DK) (s x : ByteArray) : DK := if diskB d = true then (if rpK d s x = 0 then rpN (rpO s x (hasB (newS s) d.live)) d (rpO s x (hasB (newS s) d.live)).length else d) else dk0
end Go.Proofs.Ytanjlpgdmnapdaa
