import Derived.Test.YtanjlpgdmnapdaaFoL
import Derived.Test.YtanjlpgdmnapdaaFoJ
namespace Go.Proofs.Ytanjlpgdmnapdaa
open Go.RowKit Go.Maps
set_option linter.unusedSimpArgs false
set_option linter.unusedVariables false

def fiEq (x y : FI) : Bool := (x.n.toList == y.n.toList) && (x.d.toList == y.d.toList)
theorem fiEq_iff {x y : FI} : fiEq x y = true ↔ x = y := by
  constructor
  · intro h
    simp only [fiEq, Bool.and_eq_true] at h
    have h1 := str_of h.1
    have h2 := str_of h.2
    cases x; cases y
    simp only at h1 h2
    rw [h1, h2]
  · rintro rfl
    simp [fiEq]
def sameB : List FI → List FI → Bool
  | [], [] => true
  | x :: a, y :: b => fiEq x y && sameB a b
  | _, _ => false
theorem sameB_iff : ∀ {a b : List FI}, sameB a b = true ↔ a = b
  | [], [] => by simp [sameB]
  | [], _ :: _ => by simp [sameB]
  | _ :: _, [] => by simp [sameB]
  | x :: a, y :: b => by
    have ih := sameB_iff (a := a) (b := b)
    simp only [sameB, Bool.and_eq_true, fiEq_iff, ih, List.cons.injEq]
theorem sameB_len {a b : List FI} (h : a.length ≠ b.length) : sameB a b = false := by
  cases e : sameB a b
  · rfl
  · exact absurd (congrArg List.length (sameB_iff.1 e)) h
theorem sameB_no {a b : List FI} {i : Nat} {x y : FI} (hx : a[i]? = some x) (hy : b[i]? = some y) (h : fiEq x y = false) : sameB a b = false := by
  cases e : sameB a b
  · rfl
  · have h1 := sameB_iff.1 e
    subst h1
    rw [hx] at hy
    cases hy
    rw [fiEq_iff.2 rfl] at h
    cases h
theorem sameB_yes {a b : List FI} (hl : a.length = b.length) (h : ∀ (i : Nat) (x y : FI), a[i]? = some x → b[i]? = some y → x = y) : sameB a b = true := by
  apply sameB_iff.2
  apply List.ext_getElem?
  intro i
  by_cases hi : i < a.length
  · rw [List.getElem?_eq_getElem hi, List.getElem?_eq_getElem (hl ▸ hi)]
    rw [h i _ _ (List.getElem?_eq_getElem hi) (List.getElem?_eq_getElem (hl ▸ hi))]
  · rw [List.getElem?_eq_none (by omega), List.getElem?_eq_none (by omega)]
set_option maxRecDepth 100000 in
set_option maxHeartbeats 2000000 in
theorem slices_EqualF {A A' : Option Addr} {n n' cap cap' : Nat} {L L' : List FI} (w : World) (h : FiRow w A L) (h' : FiRow w A' L') (hL : L.length = n) (hL' : L'.length = n') :
    Calls Try.prog 44 #[.slice A n cap, .slice A' n' cap'] w fun e w' => e = .returned (.bool (sameB L L')) ∧ Below w.heap.size w w' := by
  have HR : Hid (FiRow w A L) := h
  have HR' : Hid (FiRow w A' L') := h'
  have HL : Hid (L.length = n) := hL
  have HL' : Hid (L'.length = n') := hL'
  have hn := h.1
  have hn' := h'.1
  rw [hL] at hn
  rw [hL'] at hn'
  unfold maxLen at hn hn'
  clear h h' hL hL'
  by_cases hne : n = n'
  · subst hne
    go_enter Try.func44, Try.ntmps44
    go_wp2_with fail
    go_loopw [13] (fun i wr => ∃ t : Nat, t ≤ n ∧ i = .int .i64 t ∧ (∀ j x y, j < t → L[j]? = some x → L'[j]? = some y → x = y) ∧ Below w.heap.size w wr) (fun i _ => n - (intOf i).toNat)
    case atStart => exact ⟨0, Nat.zero_le _, rfl, fun j x y hj => by omega, Below.refl _ _⟩
    case round =>
      obtain ⟨t, ht, rfl, hall, hbel⟩ := hrel
      have HA : Hid (∀ j x y, j < t → L[j]? = some x → L'[j]? = some y → x = y) := hall
      clear hall
      by_cases hlt : t < n
      · obtain ⟨x, hx⟩ := at_lt HL.out hlt
        obtain ⟨y, hy⟩ := at_lt HL'.out hlt
        have HX : Hid (L[t]? = some x) := hx
        have HY : Hid (L'[t]? = some y) := hy
        obtain ⟨b, o, rfl, hl, hc⟩ := HR.out.2 t x hx
        have c0 : w.cell? ⟨b, o + t * 2, none⟩ = some (.string x.n) := hc 0 _ rfl
        have c1 : w.cell? ⟨b, o + t * 2 + 1, none⟩ = some (.string x.d) := hc 1 _ rfl
        obtain ⟨b', o', rfl, hl', hc'⟩ := HR'.out.2 t y hy
        have d0 : w.cell? ⟨b', o' + t * 2, none⟩ = some (.string y.n) := hc' 0 _ rfl
        have d1 : w.cell? ⟨b', o' + t * 2 + 1, none⟩ = some (.string y.d) := hc' 1 _ rfl
        clear hc hc' hx hy
        rw [← hbel.cell (p := ⟨_, _, none⟩) hl] at c0 c1
        rw [← hbel.cell (p := ⟨_, _, none⟩) hl'] at d0 d1
        have q0 : (0 : Int) ≤ (t : Int) := by omega
        have q1 : (t : Int) < (n : Int) := by omega
        obtain ⟨bb, HBB⟩ : ∃ bb, Hid (fiEq x y = bb) := ⟨_, rfl⟩
        cases e1 : (x.n.toList == y.n.toList) <;> cases e2 : (x.d.toList == y.d.toList)
        all_goals
          go_wp2_with fail
          go_quiet (fail)
          go_wp2_with fail
        · go_ret
          exact ⟨ret_bool (sameB_no HX.out HY.out (by rw [fiEq, e1, e2]; rfl)).symm, below_drewN hbel _⟩
        · go_ret
          exact ⟨ret_bool (sameB_no HX.out HY.out (by rw [fiEq, e1, e2]; rfl)).symm, below_drewN hbel _⟩
        · go_ret
          exact ⟨ret_bool (sameB_no HX.out HY.out (by rw [fiEq, e1, e2]; rfl)).symm, below_drewN hbel _⟩
        · go_roundw
          case rel => exact ⟨t + 1, by omega, by go_num, fun j u v hj hu hv => by
            by_cases e : j = t
            · subst e; rw [HX.out] at hu; rw [HY.out] at hv; cases hu; cases hv; exact fiEq_iff.1 (by rw [fiEq, e1, e2]; rfl)
            · exact HA.out j u v (by omega) hu hv, below_drewN hbel _⟩
          case measure => simp [intOf]; omega
      · have h1 : ¬ (t : Int) < (n : Int) := by omega
        obtain rfl : t = n := by omega
        go_wp2_with fail
        go_ret
        exact ⟨ret_bool (sameB_yes (HL.out.trans HL'.out.symm) (fun i x y hx hy => HA.out i x y (by have := (List.getElem?_eq_some_iff.1 hx).1; have := HL.out; omega) hx hy)).symm, hbel⟩
  · have hne2 : ¬ (n : Int) = (n' : Int) := by omega
    have hne3 : ((n : Int) == (n' : Int)) = false := by simpa using hne2
    go_enter Try.func44, Try.ntmps44
    go_wp2_with fail
    go_ret
    exact ⟨ret_bool (sameB_len (by rw [HL.out, HL'.out]; exact hne)).symm, by go_grown⟩
end Go.Proofs.Ytanjlpgdmnapdaa
