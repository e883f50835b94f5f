import Derived.Test.YtanjlpgdmnapdaaCrsM
namespace Go.Proofs.Ytanjlpgdmnapdaa
open Go.RowKit Go.Maps
set_option linter.unusedSimpArgs false
set_option linter.unusedVariables false

/-! ### All ops kept; none kept -/
def allK (n : Nat) : List Int := (List.range n).map fun (i : Nat) => (i : Int)
theorem allK_len (n : Nat) : (allK n).length = n := by simp [allK]
theorem allK_at {n i : Nat} (h : i < n) : kAt (allK n) i = (i : Int) := by
  rw [kAt, List.getD_eq_getElem?_getD]
  simp [allK, h]
theorem allK_snoc (n : Nat) : allK (n + 1) = allK n ++ [(n : Int)] := by simp [allK, List.range_succ]
theorem allK_keep (n : Nat) : keepB (allK n) n = true := by
  refine decide_eq_true fun i hi => ?_
  rw [allK_len] at hi
  refine ⟨by rw [allK_at hi]; omega, by rw [allK_at hi]; omega, fun h0 => ?_⟩
  rw [allK_at hi, allK_at (by omega)]
  omega
theorem tornP_whole {x : DP} {t : Int} (h : (x.d.size : Int) ≤ t) : tornP x t = x := by
  unfold tornP
  split
  · rw [tornS, if_neg (by omega)]
  · rfl
theorem crX_all {ops : List DP} {t : Int} {n i : Nat} {x : DP} (hx : ops[i]? = some x) (hi : i < n) (ht : (x.d.size : Int) ≤ t) : crX ops (allK n) t i = x := by
  have e : (kAt (allK n) i).toNat = i := by rw [allK_at hi]; omega
  by_cases h : i + 1 = (allK n).length
  · rw [crX_last (x := x) (by rw [e]; exact hx) h]; exact tornP_whole ht
  · exact crX_else (x := x) (by rw [e]; exact hx) h
theorem run_all {ops : List DP} {S L : List FI} {t : Int} (h : runO ops S = some L) (ht : ∀ x ∈ ops, (x.d.size : Int) ≤ t) : ∀ i, i ≤ ops.length → runO (ops.take i) S = some (crT ops (allK ops.length) t S i)
  | 0, _ => by simp [runO, crT]
  | i + 1, hi => by
    have h1 := run_all h ht i (by omega)
    obtain ⟨x, hx⟩ := at_lt (L := ops) (t := i) rfl (by omega)
    have h0 : doC x (crT ops (allK ops.length) t S i) = 0 := Classical.byContradiction fun h9 => by
      have := runO_stop h1 hx h9
      rw [this] at h; cases h
    rw [runO_take h1 hx h0]
    show _ = some (doM (crX ops (allK ops.length) t i) (crT ops (allK ops.length) t S i))
    rw [crX_all hx (by omega) (ht x (List.mem_of_getElem? hx)), doM, if_pos (doC_zero h0).2.1]
theorem disk_run {d : DK} (h : diskB d = true) : runO d.ops d.safe = some d.live := by
  simp only [diskB, Bool.and_eq_true] at h
  have h4 := h.2.2.2
  split at h4
  · rename_i L hL; rw [hL, sameB_iff.1 h4]
  · cases h4
theorem crF_all {d : DK} {t : Int} (h : diskB d = true) (ht : ∀ x ∈ d.ops, (x.d.size : Int) ≤ t) : crF d (allK d.ops.length) t = d.live := by
  have h1 := run_all (disk_run h) ht d.ops.length (Nat.le_refl _)
  rw [List.take_length, disk_run h] at h1
  rw [crF, allK_len]
  exact (Option.some.inj h1).symm
theorem files_fits {L : List FI} (h : filesB L = true) : fitB L = true := by
  obtain ⟨h1, h2, h3, _⟩ := files_parts h
  rw [← files_fit h2 h3]; exact h
theorem crK_all {d : DK} {t : Int} (ht0 : 0 ≤ t) (ht : ∀ x ∈ d.ops, (x.d.size : Int) ≤ t) : crK d (allK d.ops.length) t = diskB d := by
  cases hd : diskB d with
  | false => exact crK_no (Or.inl hd)
  | true => rw [crK_yes hd (allK_keep _) ht0, crF_all hd ht]; exact files_fits (disk_parts hd).1
theorem crK_none {d : DK} {t : Int} (ht0 : 0 ≤ t) : crK d [] t = diskB d := by
  cases hd : diskB d with
  | false => exact crK_no (Or.inl hd)
  | true =>
    have hk : keepB [] d.ops.length = true := decide_eq_true fun i hi => by simp at hi
    rw [crK_yes hd hk ht0]
    exact files_fits (disk_parts hd).2.1
theorem crD_all {d : DK} {t : Int} (ht0 : 0 ≤ t) (ht : ∀ x ∈ d.ops, (x.d.size : Int) ≤ t) (hd : diskB d = true) : crD d (allK d.ops.length) t = ⟨d.live, d.live, []⟩ := by
  rw [crD_yes (by rw [crK_all ht0 ht]; exact hd), crF_all hd ht]
theorem crD_none {d : DK} {t : Int} (ht0 : 0 ≤ t) (hd : diskB d = true) : crD d [] t = ⟨d.safe, d.safe, []⟩ := by
  rw [crD_yes (by rw [crK_none ht0]; exact hd)]; rfl
theorem lil_ops {d : DK} (h : DkLil d) : ∀ x ∈ d.ops, (x.d.size : Int) ≤ 1099511627776 := fun x hx => by have := (h.l3 x hx).2.2; omega
end Go.Proofs.Ytanjlpgdmnapdaa
