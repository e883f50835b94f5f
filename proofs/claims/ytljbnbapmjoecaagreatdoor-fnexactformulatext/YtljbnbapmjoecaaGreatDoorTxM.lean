import Derived.Test.YtljbnbapmjoecaaGreatDoorFnK
import Derived.Test.YtljbnbapmjoecaaGreatDoorFtQA
import Derived.Test.YtljbnbapmjoecaaGreatDoorVtAC
import Derived.Test.YtljbnbapmjoecaaGreatDoorPlAD
namespace Go.Proofs.YtljbnbapmjoecaaGreatDoor
open Go.RowKit
set_option linter.unusedSimpArgs false
set_option linter.unusedVariables false

/-! ### The text of a right formula's node -/
def cstT (ck cn : Int) (cs : ByteArray) : List UInt8 := if ck = 2 then [34] ++ qt cs.data.toList ++ [34] else (txV ck cn cs).data.toList
def plT (c r : Int) (x y : Bool) : List UInt8 := (placeT c r.toNat x y).data.toList
def leafT (x : FN) : List UInt8 := if x.k = 1 then cstT x.ck x.cn x.cs else if x.k = 2 then plT x.ac x.ar x.af x.ag else plT x.ac x.ar x.af x.ag ++ [58] ++ plT x.bc x.br x.bf x.bg
def fK (F : Nat → FN) (j : Nat) : Int := (F j).k
def fO (F : Nat → FN) (j : Nat) : Int := (F j).o
def fL (F : Nat → FN) (j : Nat) : List UInt8 := leafT (F j)
def fG (F : Nat → FN) (j : Nat) : List Int := (F j).kids
def TX (F : Nat → FN) (i : Nat) : List UInt8 := ndT (fK F) (fO F) (fL F) (fG F) (i + 1) i
def bdX (F : Nat → FN) (j : Nat) (least : Int) : List UInt8 := if (F j).k = 5 ∧ lvl (F j).o < least then [40] ++ TX F j ++ [41] else TX F j

theorem nd_fuel {K O : Nat → Int} {LT : Nat → List UInt8} {G : Nat → List Int} {n : Nat} (hG : InRange G n) : ∀ i, i < n → ∀ a b, i < a → i < b → ndT K O LT G a i = ndT K O LT G b i := by
  intro i
  induction i using Nat.strongRecOn with
  | ind i ih =>
    intro hi a b ha hb
    obtain ⟨a, rfl⟩ : ∃ a', a = a' + 1 := ⟨a - 1, by omega⟩
    obtain ⟨b, rfl⟩ : ∃ b', b = b' + 1 := ⟨b - 1, by omega⟩
    have hk : ∀ c ∈ G i, ndT K O LT G a c.toNat = ndT K O LT G b c.toNat := fun c hc => by
      have := hG i hi c hc
      exact ih c.toNat (by omega) (by omega) a b (by omega) (by omega)
    have hb1 : ∀ c ∈ G i, ∀ z, bdT K O (ndT K O LT G a) c.toNat z = bdT K O (ndT K O LT G b) c.toNat z := fun c hc z => by unfold bdT; rw [hk c hc]
    rw [ndT, ndT]
    by_cases h4 : K i = 4
    · rw [if_pos h4, if_pos h4]
      match hg : G i with
      | [] => rfl
      | [c] => simp only [hb1 c (by rw [hg]; simp)]
      | _ :: _ :: _ => rfl
    rw [if_neg h4, if_neg h4]
    by_cases h5 : K i = 5
    · rw [if_pos h5, if_pos h5]
      match hg : G i with
      | [] => rfl
      | [c] => rfl
      | [c, d] => simp only [hb1 c (by rw [hg]; simp), hb1 d (by rw [hg]; simp)]
      | _ :: _ :: _ :: _ => rfl
    rw [if_neg h5, if_neg h5]
    have e3 : ((G i).map fun c => ndT K O LT G a c.toNat) = ((G i).map fun c => ndT K O LT G b c.toNat) := List.map_congr_left hk
    rw [e3]
theorem TX_at {F : Nat → FN} {n : Nat} (hG : InRange (fG F) n) {c : Int} {i : Nat} (hi : i < n) (hc : c ∈ (F i).kids) : ndT (fK F) (fO F) (fL F) (fG F) i c.toNat = TX F c.toNat := by
  have h := hG i hi c hc
  exact nd_fuel hG c.toNat (by omega) i (c.toNat + 1) (by omega) (by omega)
theorem bd_at {F : Nat → FN} {n : Nat} (hG : InRange (fG F) n) {c : Int} {i : Nat} (hi : i < n) (hc : c ∈ (F i).kids) (z : Int) : bdT (fK F) (fO F) (ndT (fK F) (fO F) (fL F) (fG F) i) c.toNat z = bdX F c.toNat z := by
  unfold bdT bdX
  rw [TX_at hG hi hc]
  rfl
theorem TX_neg {F : Nat → FN} {n i : Nat} {c : Int} (hG : InRange (fG F) n) (hi : i < n) (hk : (F i).k = 4) (hg : (F i).kids = [c]) : TX F i = [45] ++ bdX F c.toNat 5 := by
  have h := nd_neg (K := fK F) (O := fO F) (LT := fL F) (G := fG F) (m := i) (i := i) (c := c) hk hg
  rw [bd_at hG hi (by rw [hg]; simp)] at h
  exact h
theorem TX_bin {F : Nat → FN} {n i : Nat} {a b : Int} (hG : InRange (fG F) n) (hi : i < n) (hk : (F i).k = 5) (hg : (F i).kids = [a, b]) : TX F i = bdX F a.toNat (lvl (F i).o) ++ sgT (F i).o ++ bdX F b.toNat (lvl (F i).o + 1) := by
  have h := nd_bin (K := fK F) (O := fO F) (LT := fL F) (G := fG F) (m := i) (i := i) (a := a) (b := b) hk hg
  rw [bd_at hG hi (by rw [hg]; simp), bd_at hG hi (by rw [hg]; simp)] at h
  exact h
theorem TX_call {F : Nat → FN} {n i : Nat} (hG : InRange (fG F) n) (hi : i < n) (hk : (F i).k = 6) : TX F i = fnT (F i).o ++ [40] ++ jn ((F i).kids.map fun c => TX F c.toNat) ++ [41] := by
  have h := nd_call (K := fK F) (O := fO F) (LT := fL F) (G := fG F) (m := i) (i := i) hk
  have e : ((fG F i).map fun c => ndT (fK F) (fO F) (fL F) (fG F) i c.toNat) = ((F i).kids.map fun c => TX F c.toNat) := List.map_congr_left (fun c hc => TX_at hG hi hc)
  rw [e] at h
  exact h
theorem TX_leaf {F : Nat → FN} {i : Nat} (h4 : (F i).k ≠ 4) (h5 : (F i).k ≠ 5) (h6 : (F i).k ≠ 6) : TX F i = leafT (F i) := nd_leaf (K := fK F) (O := fO F) (LT := fL F) (G := fG F) (m := i) (i := i) h4 h5 h6
theorem plT_len (c r : Int) (x y : Bool) : (plT c r x y).length ≤ 6 := by
  have e : (plT c r x y).length = (placeT c r.toNat x y).size := rfl
  rw [e, placeT, ByteArray.size_append, ByteArray.size_append, ByteArray.size_append]
  have h1 := fx_size x
  have h2 := fx_size y
  have h3 := colT_size c
  have h4 := decS_size r.toNat
  omega
theorem trT_len (n : Int) : (trT n).size ≤ 5 := by unfold trT; split <;> decide
theorem erT_len (n : Int) : (erT n).size ≤ 7 := by
  unfold erT
  repeat' split
  all_goals decide
theorem cOk_parts {k n : Int} {s : ByteArray} (h : cOk k n s = true) : okV k n s = true ∧ k ≠ 0 ∧ (k = 1 → 0 ≤ n) := by
  simp only [cOk, Bool.and_eq_true, Bool.not_eq_true', decide_eq_false_iff_not, Bool.or_eq_true, decide_eq_true_eq] at h
  exact ⟨h.1.1, h.1.2, fun e => by rcases h.2 with h2 | h2; exact absurd e h2; exact h2⟩
theorem cstT_len {k n : Int} {s : ByteArray} (hc : cOk k n s = true) : (cstT k n s).length ≤ 402 := by
  obtain ⟨h, _, hn1⟩ := cOk_parts hc
  have hn : k = 1 → 0 ≤ n := hn1
  unfold cstT
  rcases okV_kinds h with ⟨rfl, rfl, rfl⟩ | ⟨rfl, hr, rfl⟩ | ⟨rfl, rfl, hr⟩ | ⟨rfl, hr, rfl⟩ | ⟨rfl, h1, h5, rfl⟩
  · simp only [txV, h, if_pos, txB]; decide
  · have hb := rNum_b hr
    obtain ⟨m, rfl⟩ : ∃ m : Nat, n = (m : Int) := ⟨n.toNat, by have := hn rfl; omega⟩
    have := itB_size (m := m) (by omega)
    rw [if_neg (by omega), txV, h, if_pos rfl, txB, if_pos rfl]
    show (itB (m : Int)).size ≤ 402
    omega
  · have hb := rWord_b hr
    rw [if_pos rfl]
    have h1 := qt_len s.data.toList
    have h2 : s.data.toList.length = s.size := rfl
    simp only [List.length_append, List.length_cons, List.length_nil]
    omega
  · rw [if_neg (by omega), txV, h, if_pos rfl, txB, if_neg (by omega), if_neg (by omega), if_pos rfl]
    have := trT_len n
    show (trT n).size ≤ 402
    omega
  · rw [if_neg (by omega), txV, h, if_pos rfl, txB, if_neg (by omega), if_neg (by omega), if_neg (by omega), if_pos rfl]
    have := erT_len n
    show (erT n).size ≤ 402
    omega
/-- What a right node is, by its Kind. -/
theorem node_kinds {x : FN} (h : nodeX x = true) : (x.k = 1 ∧ cOk x.ck x.cn x.cs = true ∧ x.kids = []) ∨ (x.k = 2 ∧ refOkB x.ac x.ar = true ∧ x.kids = []) ∨ (x.k = 3 ∧ refOkB x.ac x.ar = true ∧ refOkB x.bc x.br = true ∧ x.kids = []) ∨ (x.k = 4 ∧ ∃ c, x.kids = [c]) ∨
    (x.k = 5 ∧ 1 ≤ x.o ∧ x.o ≤ 11 ∧ ∃ a b, x.kids = [a, b]) ∨ (x.k = 6 ∧ 1 ≤ x.o ∧ x.o ≤ 10 ∧ 1 ≤ x.kids.length ∧ x.kids.length ≤ 10) := by
  have nilOf : ∀ l : List Int, l.length = 0 → l = [] := fun l h => List.length_eq_zero_iff.1 h
  unfold nodeX nodeB at h
  by_cases h1 : x.k = 1
  · rw [if_pos h1] at h
    simp only [Bool.and_eq_true, decide_eq_true_eq] at h
    exact Or.inl ⟨h1, h.1.1.1.1, nilOf _ h.2⟩
  rw [if_neg h1] at h
  by_cases h2 : x.k = 2
  · rw [if_pos h2] at h
    simp only [Bool.and_eq_true, decide_eq_true_eq] at h
    exact Or.inr (Or.inl ⟨h2, h.1.1.1.1, nilOf _ h.2⟩)
  rw [if_neg h2] at h
  by_cases h3 : x.k = 3
  · rw [if_pos h3] at h
    simp only [Bool.and_eq_true, decide_eq_true_eq, areaOkB] at h
    exact Or.inr (Or.inr (Or.inl ⟨h3, h.1.1.1.1.1, h.1.1.1.1.2, nilOf _ h.2⟩))
  rw [if_neg h3] at h
  by_cases h4 : x.k = 4
  · rw [if_pos h4] at h
    simp only [Bool.and_eq_true, decide_eq_true_eq] at h
    have hl := h.1.1
    match hk : x.kids, hl with
    | [c], _ => exact Or.inr (Or.inr (Or.inr (Or.inl ⟨h4, c, rfl⟩)))
    | [], hl => simp at hl
    | _ :: _ :: _, hl => simp at hl
  rw [if_neg h4] at h
  by_cases h5 : x.k = 5
  · rw [if_pos h5] at h
    simp only [Bool.and_eq_true, decide_eq_true_eq] at h
    have hl := h.1.1
    match hk : x.kids, hl with
    | [a, b], _ => exact Or.inr (Or.inr (Or.inr (Or.inr (Or.inl ⟨h5, h.1.2.1, h.1.2.2, a, b, rfl⟩))))
    | [], hl => simp at hl
    | [_], hl => simp at hl
    | _ :: _ :: _ :: _, hl => simp at hl
  rw [if_neg h5] at h
  by_cases h6 : x.k = 6
  · rw [if_pos h6] at h
    simp only [Bool.and_eq_true] at h
    have ha := h.1
    refine Or.inr (Or.inr (Or.inr (Or.inr (Or.inr ⟨h6, ?_⟩))))
    unfold argsB at ha
    by_cases e5 : x.o = 5
    · rw [if_pos e5] at ha
      have := of_decide_eq_true ha
      omega
    rw [if_neg e5] at ha
    by_cases e8 : 8 ≤ x.o ∧ x.o ≤ 10
    · rw [if_pos e8] at ha
      have := of_decide_eq_true ha
      omega
    rw [if_neg e8] at ha
    by_cases e7 : 1 ≤ x.o ∧ x.o ≤ 7
    · rw [if_pos e7] at ha
      have := of_decide_eq_true ha
      omega
    · rw [if_neg e7] at ha
      cases ha
  · rw [if_neg h6] at h
    cases h
theorem fOk_in {F : Nat → FN} {n : Nat} (h : fOkB F n = true) : 1 ≤ n ∧ n ≤ 60 ∧ (∀ i, i < n → nodeX (F i) = true) ∧ InRange (fG F) n ∧ deep (fG F) ((n : Int) - 1) ≤ 12 := by
  simp only [fOkB, Bool.and_eq_true, decide_eq_true_eq, nodesB, List.all_eq_true, List.mem_range] at h
  obtain ⟨⟨⟨⟨⟨h1, h60⟩, hn⟩, hk⟩, _⟩, hd⟩ := h
  have hr : InRange (fG F) n := kidsB_range hk
  refine ⟨h1, h60, hn, hr, ?_⟩
  obtain ⟨m, rfl⟩ : ∃ m, n = m + 1 := ⟨n - 1, by omega⟩
  have ht : tree (fG F) m = 0 := by
    have h9 : kidsB (fG F) (m + 1) = true := hk
    rw [kidsB_tree] at h9
    exact of_decide_eq_true h9
  have hd2 : deepB (fG F) (m + 1) = true := hd
  rw [deepB_deep hr ht] at hd2
  have := of_decide_eq_true hd2
  rw [show (((m + 1 : Nat) : Int) - 1) = (m : Int) by omega]
  exact this
theorem deep_kid {G : Nat → List Int} {n : Nat} (hG : InRange G n) {i : Nat} (hi : i < n) {c : Int} (hc : c ∈ G i) : deep G c + 1 ≤ deep G i := by
  have h := deep_eq hG i (by omega) (by omega)
  have h2 := ((maxL_le (D := deep G) (G i) 0 _).1 (Int.le_refl _)).2 c hc
  rw [Int.toNat_natCast] at h
  omega
def eD (F : Nat → FN) (i : Nat) : Nat := (deep (fG F) i - 1).toNat
theorem tr_ok {F : Nat → FN} {n : Nat} (h : fOkB F n = true) : TrOk (fK F) (fL F) (fG F) n (eD F) := by
  obtain ⟨h1, h60, hn, hr, hd⟩ := fOk_in h
  refine ⟨fun i hi hk => ?_, fun i hi hk => ?_, fun i hi hk => ?_, fun i hi c hc => ?_, fun i hi => ?_⟩
  · have hk' : (F i).k = 4 := hk
    rcases node_kinds (hn i hi) with ⟨e, _⟩ | ⟨e, _⟩ | ⟨e, _⟩ | ⟨e, c, hc⟩ | ⟨e, _⟩ | ⟨e, _⟩
    all_goals first
      | exact ⟨c, hc⟩
      | (exfalso; omega)
  · have hk' : (F i).k = 5 := hk
    rcases node_kinds (hn i hi) with ⟨e, _⟩ | ⟨e, _⟩ | ⟨e, _⟩ | ⟨e, _⟩ | ⟨e, _, _, a, b, hc⟩ | ⟨e, _⟩
    all_goals first
      | exact ⟨a, b, hc⟩
      | (exfalso; omega)
  · have hk' : (F i).k = 6 := hk
    rcases node_kinds (hn i hi) with ⟨e, _⟩ | ⟨e, _⟩ | ⟨e, _⟩ | ⟨e, _⟩ | ⟨e, _⟩ | ⟨e, _, _, _, hc⟩
    all_goals first
      | exact hc
      | (exfalso; omega)
  · have h2 := hr i hi c hc
    have h3 := deep_kid hr hi hc
    have h4 := deep_pos (fG F) c
    refine ⟨h2.1, h2.2, ?_⟩
    unfold eD
    rw [Int.toNat_of_nonneg h2.1]
    omega
  · show (leafT (F i)).length ≤ 410
    unfold leafT
    have p1 := plT_len (F i).ac (F i).ar (F i).af (F i).ag
    have p2 := plT_len (F i).bc (F i).br (F i).bf (F i).bg
    split
    · rename_i hk1
      rcases node_kinds (hn i hi) with ⟨e, hc, _⟩ | ⟨e, _⟩ | ⟨e, _⟩ | ⟨e, _⟩ | ⟨e, _⟩ | ⟨e, _⟩
      · have := cstT_len hc; omega
      all_goals (exfalso; omega)
    · split
      · omega
      · simp only [List.length_append, List.length_cons, List.length_nil]; omega
theorem TX_small {F : Nat → FN} {n : Nat} (h : fOkB F n = true) {i : Nat} (hi : i < n) (hd : deep (fG F) i ≤ 12) : (TX F i).length ≤ 116977784950510 :=
  nd_small (tr_ok h) (i + 1) i hi (by unfold eD; omega)
end Go.Proofs.YtljbnbapmjoecaaGreatDoor
