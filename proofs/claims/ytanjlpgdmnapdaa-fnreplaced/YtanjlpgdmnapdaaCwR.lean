import Derived.Test.YtanjlpgdmnapdaaCwD
import Derived.Test.YtanjlpgdmnapdaaRpW
namespace Go.Proofs.Ytanjlpgdmnapdaa
open Go.RowKit Go.Maps
set_option linter.unusedSimpArgs false
set_option linter.unusedVariables false

/-! ### A file that is replaced -/
theorem doMR_no {x : DP} {L : List FI} (h : findB x L = false) : doM x L = L := by rw [doM, h]; rfl
theorem doMR_yes {x : DP} {L : List FI} (h : findB x L = true) : doM x L = doL x L := by rw [doM, h]; rfl
theorem new_ne (s : ByteArray) : s.data.toList ≠ (newS s).data.toList := fun e => by
  have h : (newS s).size = s.size + 4 := by rw [newS, ByteArray.size_append]; rfl
  have h2 : s.size = (newS s).size := by
    show s.data.size = (newS s).data.size
    rw [← Array.length_toList, ← Array.length_toList, ← e]
  omega
/-- The disk behind a sync. -/
def syL (L : List FI) : DK := ⟨L, L, []⟩
theorem cutR_none {u : List UInt8} {L : List FI} (h : getK fiK u L = none) : cutK fiK u L = L := List.filter_eq_self.2 fun y hy => by simpa using getK_none h y hy
theorem add_tot {s x : ByteArray} {L : List FI} (h : getK fiK s.data.toList L = none) : totL (addK s x L) = totL L + x.size := by
  show totL (insK fiK _ (cutK fiK s.data.toList L)) = _
  rw [totL_ins, cutR_none h, dataK_none h]
  have : (({ data := #[] } : ByteArray) ++ x).size = x.size := by rw [ByteArray.size_append]; exact Nat.zero_add _
  simp only [this]; omega
theorem add_len {s x : ByteArray} {L : List FI} (h : getK fiK s.data.toList L = none) : (addK s x L).length = L.length + 1 := by
  show (insK fiK _ (cutK fiK s.data.toList L)).length = _
  rw [len_insK, cutR_none h]
theorem fit_add {s x y : ByteArray} {L : List FI} (h : getK fiK s.data.toList L = none) (hy : y.size ≤ x.size) (hf : fitB (addK s x L) = true) : fitB (addK s y L) = true := by
  obtain ⟨h1, h2⟩ := fit_len hf
  rw [add_tot h] at h2
  rw [add_len h] at h1
  rw [fitB, add_tot h, add_len h]
  simp only [Bool.and_eq_true, decide_eq_true_eq]
  omega
structure Rpd (L : List FI) (s x : ByteArray) (a : DK) : Prop where
  dk : diskB a = true
  lil : DkLil (syL L) → x.size ≤ 1048576 → s.size ≤ 1048576 → DkLil a
  safe : a.safe = L
  ops : a.ops = [rpB s x, rpR s]
  none : getK fiK (newS s).data.toList L = none
  up : Up fiK L
  fit0 : fitB L = true
  fit1 : fitB (addK (newS s) x L) = true
  live : a.live = doL (rpR s) (addK (newS s) x L)
theorem rp_two {L : List FI} {s x : ByteArray} (hn : hasB (newS s) L = false) (hd : diskB (syL L) = true) (h : rpK (syL L) s x = 0) : Rpd L s x (rpD (syL L) s x) ∧ rpD (syL L) s x = acD (acD (syL L) (rpB s x)) (rpR s) ∧ doK (syL L) (rpB s x) = 0 ∧ doK (acD (syL L) (rpB s x)) (rpR s) = 0 := by
  have e0 : rpD (syL L) s x = rpN [rpB s x, rpR s] (syL L) 2 := by
    rw [rpD, if_pos hd, if_pos h]
    have e9 : hasB (newS s) (syL L).live = false := hn
    rw [e9]; rfl
  have hc : rpC [rpB s x, rpR s] (syL L) 2 = 0 := by
    rw [rpK, if_pos hd] at h
    have : rpO s x (hasB (newS s) (syL L).live) = [rpB s x, rpR s] := by
      show rpO s x (hasB (newS s) L) = _
      rw [hn]; rfl
    rw [this] at h; exact h
  have h1 : doK (syL L) (rpB s x) = 0 := Classical.byContradiction fun h9 => by
    have := rpC_end (ops := [rpB s x, rpR s]) (d := syL L) (j := 0) (n := 2) (x := rpB s x) (fun j y hj => absurd hj (Nat.not_lt_zero _)) rfl h9 rfl
    rw [this] at hc; exact h9 hc
  have ok1 : rpOk [rpB s x, rpR s] (syL L) 1 := rpOk_step (x := rpB s x) (m := 0) (fun j y hj => absurd hj (Nat.not_lt_zero _)) rfl h1
  have e1 : rpN [rpB s x, rpR s] (syL L) 1 = acD (syL L) (rpB s x) := rpN_step (m := 0) rfl
  have h2 : doK (acD (syL L) (rpB s x)) (rpR s) = 0 := Classical.byContradiction fun h9 => by
    have := rpC_end (ops := [rpB s x, rpR s]) (d := syL L) (j := 1) (n := 2) (x := rpR s) ok1 rfl (by rw [e1]; exact h9) rfl
    rw [this, e1] at hc; exact h9 hc
  have e2 : rpN [rpB s x, rpR s] (syL L) 2 = acD (acD (syL L) (rpB s x)) (rpR s) := by rw [rpN_step (m := 1) (x := rpR s) rfl, e1]
  have hd1 := act_disk hd h1
  have hd2 := act_disk hd1 h2
  have f1 := (doC_zero (doK_zero h1).1).2.2
  rw [e0, e2]
  refine ⟨⟨hd2, fun hl hx hs => ?_, ?_, ?_, none_has hn, up_live hd, files_fits (disk_parts hd).1, f1, ?_⟩, rfl, h1, h2⟩
  · have l1 : dpLil (rpB s x) := form_lil (doC_zero (doK_zero h1).1).1 hx
    have l2 : dpLil (rpR s) := form_lil (doC_zero (doK_zero h2).1).1 (Nat.zero_le _)
    exact act_lil hd1 (act_lil hd hl l1 h1) l2 h2
  · rw [acD_yes h2, acD_yes h1]; rfl
  · rw [acD_yes h2, acD_yes h1]; rfl
  · rw [acd_live h2, acd_live h1]; rfl
theorem live_now {L : List FI} {s x : ByteArray} {a : DK} (h : Rpd L s x a) : rdS a s = x ∧ rdB a s = true := by
  have hU : Up fiK (addK (newS s) x L) := up_putK h.up
  have hg := getK_put_same (key := fiK) (x := ⟨s, dataK (newS s).data.toList (addK (newS s) x L)⟩) (up_cutK (key := fiK) (u := (newS s).data.toList) hU)
  rw [rdS_of _ h.dk, rdB_of _ h.dk, h.live]
  refine ⟨?_, has_some hg⟩
  refine (dataK_some hg).trans ?_
  show dataK (newS s).data.toList (addK (newS s) x L) = x
  rw [dataK_some (get_add h.up)]
  show dataK (newS s).data.toList L ++ x = x
  rw [dataK_none h.none]
  exact ByteArray.ext (by simp)
/-- Which of two ops are kept. -/
def kTwo (b0 b1 : Bool) : List Int := (if b0 then [0] else []) ++ (if b1 then [1] else [])
theorem kTwo_keep (b0 b1 : Bool) : keepB (kTwo b0 b1) 2 = true := by cases b0 <;> cases b1 <;> decide
theorem cr_00 {L : List FI} {s x : ByteArray} {a : DK} (h : Rpd L s x a) (t : Int) : crF a (kTwo false false) t = L := by
  show crT a.ops [] t a.safe 0 = L
  rw [h.safe]; rfl
theorem cr_10 {L : List FI} {s x : ByteArray} {a : DK} (h : Rpd L s x a) (t : Int) : crF a (kTwo true false) t = addK (newS s) (tornS x t) L := by
  show doM (crX a.ops [0] t 0) a.safe = _
  rw [h.safe, crX_last (x := rpB s x) (by rw [h.ops]; rfl) rfl]
  rfl
theorem rpR_none {L : List FI} {s : ByteArray} (h : getK fiK (newS s).data.toList L = none) : doM (rpR s) L = L := doMR_no (by show hasB (newS s) L = false; exact has_none h)
theorem cr_01 {L : List FI} {s x : ByteArray} {a : DK} (h : Rpd L s x a) (t : Int) : crF a (kTwo false true) t = L := by
  show doM (crX a.ops [1] t 0) a.safe = _
  rw [h.safe, crX_last (x := rpR s) (by rw [h.ops]; rfl) rfl, tornP_not t (by show (2 : Int) ≠ 1; decide)]
  exact rpR_none h.none
theorem cr_11 {L : List FI} {s x : ByteArray} {a : DK} (h : Rpd L s x a) (t : Int) : crF a (kTwo true true) t = a.live := by
  show doM (crX a.ops [0, 1] t 1) (doM (crX a.ops [0, 1] t 0) a.safe) = _
  rw [h.safe, h.live, crX_last (x := rpR s) (by rw [h.ops]; rfl) rfl, tornP_not t (by show (2 : Int) ≠ 1; decide), crX_else (x := rpB s x) (by rw [h.ops]; rfl) (by decide)]
  show doM (rpR s) (addK (newS s) x L) = _
  exact doMR_yes (by show hasB (newS s) _ = true; exact has_some (get_add h.up))
theorem rp_len {L : List FI} {s x : ByteArray} {a : DK} (h : Rpd L s x a) : a.ops.length = 2 := by rw [h.ops]; rfl
/-- Behind any loss of power the old one or the new one. -/
theorem cr_two {L : List FI} {s x : ByteArray} {a : DK} (h : Rpd L s x a) (b0 b1 : Bool) {t : Int} (ht : 0 ≤ t) :
    crK a (kTwo b0 b1) t = true ∧ diskB (crD a (kTwo b0 b1) t) = true ∧
    (rdB (crD a (kTwo b0 b1) t) s = hasB s L ∧ rdS (crD a (kTwo b0 b1) t) s = dataK s.data.toList L ∨ rdB (crD a (kTwo b0 b1) t) s = true ∧ rdS (crD a (kTwo b0 b1) t) s = x) := by
  have hk : keepB (kTwo b0 b1) a.ops.length = true := by rw [rp_len h]; exact kTwo_keep b0 b1
  have hf : fitB (crF a (kTwo b0 b1) t) = true := by
    cases b0 <;> cases b1
    · rw [cr_00 h]; exact h.fit0
    · rw [cr_01 h]; exact h.fit0
    · rw [cr_10 h]; exact fit_add h.none (tornS_size x t) h.fit1
    · rw [cr_11 h]; exact files_fits (disk_parts h.dk).1
  have hK : crK a (kTwo b0 b1) t = true := by rw [crK_yes h.dk hk ht]; exact hf
  have hfi := crF_files (t := t) h.dk hk
  rw [hf] at hfi
  have hD : diskB (crD a (kTwo b0 b1) t) = true := by
    rw [crD_yes hK, diskB]
    simp only [hfi, List.length_nil, runO, sameB_iff.2 rfl]
    simp
  refine ⟨hK, hD, ?_⟩
  rw [rdB_of _ hD, rdS_of _ hD, crD_yes hK]
  show hasB s (crF a (kTwo b0 b1) t) = _ ∧ dataK s.data.toList (crF a (kTwo b0 b1) t) = _ ∨ _
  cases b0 <;> cases b1
  · rw [cr_00 h]; exact Or.inl ⟨rfl, rfl⟩
  · rw [cr_01 h]; exact Or.inl ⟨rfl, rfl⟩
  · left
    rw [cr_10 h, hasB, dataK, get_add_other h.up (new_ne s)]
    exact ⟨rfl, rfl⟩
  · right
    obtain ⟨h1, h2⟩ := live_now h
    rw [rdS_of _ h.dk] at h1
    rw [rdB_of _ h.dk] at h2
    show hasB s (crF a (kTwo true true) t) = true ∧ dataK s.data.toList (crF a (kTwo true true) t) = x
    rw [cr_11 h]
    exact ⟨h2, h1⟩
end Go.Proofs.Ytanjlpgdmnapdaa
