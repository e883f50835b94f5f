import Derived.Test.YtanjlpgdmnapdaaLdA
namespace Go.Proofs.Ytanjlpgdmnapdaa
open Go.RowKit Go.Maps
set_option linter.unusedSimpArgs false
set_option linter.unusedVariables false

/-! ### What is left when power is lost -/
def tornS (s : ByteArray) (t : Int) : ByteArray := if t < (s.size : Int) then s.extract 0 t.toNat else s
def tornP (x : DP) (t : Int) : DP := if x.k = 1 then ⟨x.k, x.n, x.t, tornS x.d t⟩ else x
theorem tornS_size (s : ByteArray) (t : Int) : (tornS s t).size ≤ s.size := by
  unfold tornS
  split
  · rw [ByteArray.size_extract]; omega
  · exact Nat.le_refl _
theorem tornP_k (x : DP) (t : Int) : (tornP x t).k = x.k := by unfold tornP; split <;> rfl
theorem tornP_n (x : DP) (t : Int) : (tornP x t).n = x.n := by unfold tornP; split <;> rfl
theorem tornP_t (x : DP) (t : Int) : (tornP x t).t = x.t := by unfold tornP; split <;> rfl
theorem tornP_d (x : DP) (t : Int) : (tornP x t).d.size ≤ x.d.size := by
  unfold tornP
  split
  · exact tornS_size _ _
  · exact Nat.le_refl _
theorem tornP_one {x : DP} (t : Int) (h : x.k = 1) : tornP x t = ⟨x.k, x.n, x.t, tornS x.d t⟩ := by rw [tornP, if_pos h]
theorem tornP_not {x : DP} (t : Int) (h : x.k ≠ 1) : tornP x t = x := by rw [tornP, if_neg h]
theorem tornP_form (x : DP) (t : Int) : formB (tornP x t) = formB x := by
  by_cases h : x.k = 1
  · rw [tornP_one t h]; unfold formB; rw [if_pos h, if_pos h]
  · rw [tornP_not t h]
def dp0 : DP := ⟨0, ⟨#[]⟩, ⟨#[]⟩, ⟨#[]⟩⟩
def kAt (ks : List Int) (i : Nat) : Int := ks.getD i 0
def okK (ks : List Int) (n i : Nat) : Prop := 0 ≤ kAt ks i ∧ kAt ks i < (n : Int) ∧ (0 < i → kAt ks (i - 1) < kAt ks i)
instance (ks : List Int) (n i : Nat) : Decidable (okK ks n i) := by unfold okK; infer_instance
def keepB (ks : List Int) (n : Nat) : Bool := decide (∀ i, i < ks.length → okK ks n i)
theorem keep_ge {ks : List Int} {n i : Nat} (h : ∀ j, j < i → okK ks n j) : ∀ j, j < i → (j : Int) ≤ kAt ks j
  | 0, hj => (h 0 hj).1
  | j + 1, hj => by
    have h1 := keep_ge h j (by omega)
    have h2 := (h (j + 1) hj).2.2 (by omega)
    rw [show j + 1 - 1 = j by omega] at h2
    omega
theorem keep_all {ks : List Int} {n : Nat} (h : keepB ks n = true) : ∀ i, i < ks.length → okK ks n i := of_decide_eq_true h
theorem keep_len {ks : List Int} {n : Nat} (h : keepB ks n = true) : ks.length ≤ n := by
  have h1 := keep_all h
  cases hk : ks.length with
  | zero => exact Nat.zero_le _
  | succ m =>
    have h2 := keep_ge h1 m (by omega)
    have h3 := (h1 m (by omega)).2.1
    omega
def crX (ops : List DP) (ks : List Int) (t : Int) (i : Nat) : DP := if i + 1 = ks.length then tornP (ops.getD (kAt ks i).toNat dp0) t else ops.getD (kAt ks i).toNat dp0
def crT (ops : List DP) (ks : List Int) (t : Int) (S : List FI) : Nat → List FI
  | 0 => S
  | i + 1 => doM (crX ops ks t i) (crT ops ks t S i)
theorem crX_last {ops : List DP} {ks : List Int} {t : Int} {i : Nat} {x : DP} (hx : ops[(kAt ks i).toNat]? = some x) (h : i + 1 = ks.length) : crX ops ks t i = tornP x t := by
  rw [crX, if_pos h, List.getD_eq_getElem?_getD, hx]; rfl
theorem crX_else {ops : List DP} {ks : List Int} {t : Int} {i : Nat} {x : DP} (hx : ops[(kAt ks i).toNat]? = some x) (h : ¬ i + 1 = ks.length) : crX ops ks t i = x := by
  rw [crX, if_neg h, List.getD_eq_getElem?_getD, hx]; rfl
theorem crX_cases {ops : List DP} {ks : List Int} {t : Int} {n i : Nat} (hn : ops.length = n) (hk : okK ks n i) : ∃ x, ops[(kAt ks i).toNat]? = some x ∧ x ∈ ops ∧ (crX ops ks t i = tornP x t ∨ crX ops ks t i = x) := by
  obtain ⟨x, hx⟩ := at_lt (t := (kAt ks i).toNat) hn (by have := hk.1; have := hk.2.1; omega)
  refine ⟨x, hx, List.mem_of_getElem? hx, ?_⟩
  by_cases h : i + 1 = ks.length
  · exact Or.inl (crX_last hx h)
  · exact Or.inr (crX_else hx h)
theorem doM_up {x : DP} {L : List FI} (h : Up fiK L) : Up fiK (doM x L) := by
  unfold doM; split
  · exact up_do h
  · exact h
theorem doM_tot (x : DP) (L : List FI) : totL (doM x L) ≤ totL L + x.d.size := by
  unfold doM; split
  · exact totL_do x L
  · omega
theorem doM_len (x : DP) (L : List FI) : (doM x L).length ≤ L.length + 1 := by
  unfold doM; split
  · exact len_do x L
  · omega
theorem doM_names {x : DP} {L : List FI} {P : ByteArray → Prop} (hn : ∀ y ∈ L, P y.n) (h1 : P x.n) (h2 : x.k = 2 → P x.t) : ∀ y ∈ doM x L, P y.n := by
  unfold doM; split
  · exact names_do hn h1 h2
  · exact hn
theorem crT_up {ops : List DP} {ks : List Int} {t : Int} {S : List FI} (h : Up fiK S) : ∀ i, Up fiK (crT ops ks t S i)
  | 0 => h
  | i + 1 => doM_up (crT_up h i)
theorem crT_len {ops : List DP} {ks : List Int} {t : Int} {S : List FI} : ∀ i, (crT ops ks t S i).length ≤ S.length + i
  | 0 => Nat.le_refl _
  | i + 1 => by have h1 := crT_len (ops := ops) (ks := ks) (t := t) (S := S) i; have h2 := doM_len (crX ops ks t i) (crT ops ks t S i); show (doM _ _).length ≤ _; omega
theorem crT_tot {ops : List DP} {ks : List Int} {t : Int} {S : List FI} {n : Nat} (hn : ops.length = n) (hl : ∀ x ∈ ops, dpLil x) : ∀ i, (∀ j, j < i → okK ks n j) → totL (crT ops ks t S i) ≤ totL S + i * 1048576
  | 0, _ => by show totL S ≤ _; omega
  | i + 1, hk => by
    have h1 := crT_tot hn hl i (fun j hj => hk j (by omega)) (S := S) (t := t)
    have h2 := doM_tot (crX ops ks t i) (crT ops ks t S i)
    obtain ⟨x, _, hm, he⟩ := crX_cases (t := t) hn (hk i (by omega))
    have h3 : (crX ops ks t i).d.size ≤ 1048576 := by
      rcases he with he | he <;> rw [he]
      · exact Nat.le_trans (tornP_d x t) (hl x hm).2.2
      · exact (hl x hm).2.2
    show totL (doM _ _) ≤ _
    omega
theorem crT_names {ops : List DP} {ks : List Int} {t : Int} {S : List FI} {n : Nat} (hn : ops.length = n) (hf : ∀ x ∈ ops, formB x = true) (hS : ∀ y ∈ S, nameB y.n = true) : ∀ i, (∀ j, j < i → okK ks n j) → ∀ y ∈ crT ops ks t S i, nameB y.n = true
  | 0, _ => hS
  | i + 1, hk => by
    have h1 := crT_names hn hf hS i (fun j hj => hk j (by omega)) (t := t)
    obtain ⟨x, _, hm, he⟩ := crX_cases (t := t) hn (hk i (by omega))
    have h3 : formB (crX ops ks t i) = true := by
      rcases he with he | he <;> rw [he]
      · rw [tornP_form]; exact hf x hm
      · exact hf x hm
    obtain ⟨a, b⟩ := form_name h3
    exact doM_names (P := fun s => nameB s = true) h1 a b
theorem run_form : ∀ {ops : List DP} {S L : List FI}, runO ops S = some L → ∀ x ∈ ops, formB x = true
  | [], _, _, _ => fun x hx => by cases hx
  | y :: r, S, L, h => by
    unfold runO at h
    split at h
    · rename_i h0
      intro x hx
      rcases List.mem_cons.1 hx with rfl | hx
      · exact (doC_zero h0).1
      · exact run_form h x hx
    · cases h
theorem disk_forms {d : DK} (h : diskB d = true) : ∀ x ∈ d.ops, formB x = true := by
  simp only [diskB, Bool.and_eq_true] at h
  have h1 := h.2.2.2
  split at h1
  · rename_i L hL; exact run_form hL
  · cases h1
theorem form_kind {x : DP} (h : formB x = true) : x.k = 1 ∨ x.k = 2 ∨ x.k = 3 := by
  unfold formB at h
  split at h
  · rename_i h1; exact Or.inl h1
  · split at h
    · rename_i h1; exact Or.inr (Or.inl h1)
    · split at h
      · rename_i h1; exact Or.inr (Or.inr h1)
      · cases h
def crF (d : DK) (ks : List Int) (t : Int) : List FI := crT d.ops ks t d.safe ks.length
def crK (d : DK) (ks : List Int) (t : Int) : Bool := diskB d && (keepB ks d.ops.length && (decide (0 ≤ t) && fitB (crF d ks t)))
def crD (d : DK) (ks : List Int) (t : Int) : DK := if crK d ks t = true then ⟨crF d ks t, crF d ks t, []⟩ else dk0
theorem crK_yes {d : DK} {ks : List Int} {t : Int} (h1 : diskB d = true) (h2 : keepB ks d.ops.length = true) (h3 : 0 ≤ t) : crK d ks t = fitB (crF d ks t) := by
  rw [crK, h1, h2, decide_eq_true h3]; rfl
theorem crK_no {d : DK} {ks : List Int} {t : Int} (h : diskB d = false ∨ keepB ks d.ops.length = false ∨ ¬ 0 ≤ t) : crK d ks t = false := by
  rcases h with h | h | h
  · rw [crK, h]; rfl
  · rw [crK, h]; simp
  · rw [crK, decide_eq_false h]; simp
theorem crD_no {d : DK} {ks : List Int} {t : Int} (h : crK d ks t = false) : crD d ks t = dk0 := by rw [crD, if_neg (by rw [h]; simp)]
theorem crD_yes {d : DK} {ks : List Int} {t : Int} (h : crK d ks t = true) : crD d ks t = ⟨crF d ks t, crF d ks t, []⟩ := by rw [crD, if_pos h]
theorem fit_len {L : List FI} (h : fitB L = true) : L.length ≤ 60 ∧ totL L ≤ 200000 := by
  simp only [fitB, Bool.and_eq_true, decide_eq_true_eq] at h; exact h
theorem crK_parts {d : DK} {ks : List Int} {t : Int} (h : crK d ks t = true) : diskB d = true ∧ keepB ks d.ops.length = true ∧ 0 ≤ t ∧ fitB (crF d ks t) = true := by
  simp only [crK, Bool.and_eq_true, decide_eq_true_eq] at h
  exact ⟨h.1, h.2.1, h.2.2.1, h.2.2.2⟩
theorem crD_len {d : DK} {ks : List Int} {t : Int} : (crD d ks t).live.length ≤ 1048576 ∧ (crD d ks t).safe.length ≤ 1048576 ∧ (crD d ks t).ops.length ≤ 1048576 := by
  by_cases h : crK d ks t = true
  · rw [crD_yes h]
    have h1 := (fit_len (crK_parts h).2.2.2).1
    refine ⟨?_, ?_, Nat.zero_le _⟩ <;> show (crF d ks t).length ≤ _ <;> omega
  · rw [crD_no (by simpa using h)]
    exact ⟨Nat.zero_le _, Nat.zero_le _, Nat.zero_le _⟩
theorem crF_files {d : DK} {ks : List Int} {t : Int} (h1 : diskB d = true) (h2 : keepB ks d.ops.length = true) : filesB (crF d ks t) = fitB (crF d ks t) := by
  obtain ⟨q1, q2, q3⟩ := disk_parts h1
  obtain ⟨_, hU, hn, _⟩ := files_parts q2
  exact files_fit (crT_up hU _) (crT_names rfl (disk_forms h1) hn _ (keep_all h2))
end Go.Proofs.Ytanjlpgdmnapdaa
