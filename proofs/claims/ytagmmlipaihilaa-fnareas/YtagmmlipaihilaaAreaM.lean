import Derived.Test.YtagmmlipaihilaaCellsG
import Derived.Test.YtagmmlipaihilaaCellsB
namespace Go.Proofs.Ytagmmlipaihilaa
open Go.RowKit

/-- How many of a, a + 1 .. (n of them) lie from lo to hi. -/
def cntI (a lo hi : Int) : Nat → Nat
  | 0 => 0
  | n + 1 => cntI a lo hi n + (if lo ≤ a + (n : Int) ∧ a + (n : Int) ≤ hi then 1 else 0)
theorem cntI_eq (a lo hi : Int) (n : Nat) : cntI a lo hi n = (min hi (a + (n : Int) - 1) - max lo a + 1).toNat := by
  induction n with
  | zero => simp only [cntI]; omega
  | succ n ih =>
    simp only [cntI, ih]
    by_cases h : lo ≤ a + (n : Int) ∧ a + (n : Int) ≤ hi
    · rw [if_pos h]; omega
    · rw [if_neg h]; omega
/-- Of the first m cells of an area with nc columns, how many lie in another one. -/
def cntC (a b x y z u : Int) (nc : Nat) : Nat → Nat
  | 0 => 0
  | m + 1 => cntC a b x y z u nc m + (if (x ≤ a + ((m % nc : Nat) : Int) ∧ a + ((m % nc : Nat) : Int) ≤ z) ∧ (y ≤ b + ((m / nc : Nat) : Int) ∧ b + ((m / nc : Nat) : Int) ≤ u) then 1 else 0)
theorem cntC_row (a b x y z u : Int) (nc r j : Nat) (h : j ≤ nc) : cntC a b x y z u nc (r * nc + j) = cntC a b x y z u nc (r * nc) + (if y ≤ b + (r : Int) ∧ b + (r : Int) ≤ u then cntI a x z j else 0) := by
  induction j with
  | zero => simp [cntI]
  | succ j ih =>
    have h1 : (r * nc + j) % nc = j := by rw [Nat.mul_add_mod_self_right, Nat.mod_eq_of_lt h]
    have h2 : (r * nc + j) / nc = r := by
      rw [Nat.add_comm, Nat.add_mul_div_right _ _ (by omega), Nat.div_eq_of_lt h]; omega
    rw [← Nat.add_assoc]
    simp only [cntC, cntI, h1, h2]
    rw [ih (by omega)]
    by_cases h3 : y ≤ b + (r : Int) ∧ b + (r : Int) ≤ u
    · simp only [h3, and_true, if_true]; omega
    · simp only [h3, and_false, if_false]
theorem cntC_eq (a b x y z u : Int) (nc r : Nat) : cntC a b x y z u nc (r * nc) = cntI a x z nc * cntI b y u r := by
  induction r with
  | zero => simp [cntC, cntI]
  | succ r ih =>
    rw [Nat.succ_mul, cntC_row _ _ _ _ _ _ _ _ _ (Nat.le_refl _), ih]
    simp only [cntI]
    by_cases h3 : y ≤ b + (r : Int) ∧ b + (r : Int) ≤ u
    · rw [if_pos h3, if_pos h3, Nat.mul_add, Nat.mul_one]
    · rw [if_neg h3, if_neg h3, Nat.mul_add, Nat.mul_zero]
theorem cntC_le (a b x y z u : Int) (nc m : Nat) : cntC a b x y z u nc m ≤ m := by
  induction m with
  | zero => simp [cntC]
  | succ m ih => simp only [cntC]; split <;> omega

/-- What the cells of a that lie in b are, of two right areas. -/
theorem cnt_common {a b c d x y z u : Int} (h : areaOkB a b c d = true) (h' : areaOkB x y z u = true) :
    cntC a b x y z u (c - a + 1).toNat (manyOf a b c d) = manyOf (sel (comOk a b c d x y z u) (mx a x)) (sel (comOk a b c d x y z u) (mx b y)) (sel (comOk a b c d x y z u) (mn c z)) (sel (comOk a b c d x y z u) (mn d u)) ∧
    comOk a b c d x y z u = decide (0 < cntC a b x y z u (c - a + 1).toNat (manyOf a b c d)) := by
  have e : manyOf a b c d = (d - b + 1).toNat * (c - a + 1).toNat := by rw [manyOf, h, Nat.mul_comm]; rfl
  rw [e, cntC_eq, cntI_eq, cntI_eq]
  have hA := h
  have hB := h'
  simp only [areaOkB, refOkB, Bool.and_eq_true, decide_eq_true_eq] at hA hB
  have e1 : (min z (a + ((c - a + 1).toNat : Int) - 1) - max x a + 1).toNat = (mn c z - mx a x + 1).toNat := by unfold mn mx; split <;> split <;> omega
  have e2 : (min u (b + ((d - b + 1).toNat : Int) - 1) - max y b + 1).toNat = (mn d u - mx b y + 1).toNat := by unfold mn mx; split <;> split <;> omega
  rw [e1, e2]
  cases hc : comOk a b c d x y z u
  · have hz : manyOf 0 0 0 0 = 0 := by decide +kernel
    simp only [sel_false, hz]
    have hn : areaOkB (mx a x) (mx b y) (mn c z) (mn d u) = false := by
      cases hq : areaOkB (mx a x) (mx b y) (mn c z) (mn d u)
      · rfl
      · rw [comOk, h, h', hq] at hc; cases hc
    have hm : (mn c z - mx a x + 1).toNat * (mn d u - mx b y + 1).toNat = 0 := by
      have hr : refOkB (mx a x) (mx b y) = true ∧ refOkB (mn c z) (mn d u) = true := by
        simp only [refOkB, decide_eq_true_eq]
        unfold mx mn
        constructor
        · split <;> split <;> omega
        · split <;> split <;> omega
      simp only [areaOkB, hr.1, hr.2, Bool.and_self, Bool.true_and, decide_eq_false_iff_not] at hn
      rcases Classical.em (mx a x ≤ mn c z) with h1 | h1
      · rw [show (mn d u - mx b y + 1).toNat = 0 by omega, Nat.mul_zero]
      · rw [show (mn c z - mx a x + 1).toNat = 0 by omega, Nat.zero_mul]
    rw [hm]
    exact ⟨rfl, by decide⟩
  · simp only [sel_true]
    have hk : areaOkB (mx a x) (mx b y) (mn c z) (mn d u) = true := by
      simp only [comOk, Bool.and_eq_true] at hc
      exact hc.2
    have hq := hk
    simp only [areaOkB, Bool.and_eq_true, decide_eq_true_eq] at hq
    have hp : 0 < (mn c z - mx a x + 1).toNat * (mn d u - mx b y + 1).toNat := Nat.mul_pos (by omega) (by omega)
    refine ⟨by rw [manyOf, hk]; rfl, by simp [hp]⟩
/-- The t-th cell of a right area lies in it. -/
theorem cell_in {a b c d : Int} (h : areaOkB a b c d = true) {t : Nat} (ht : t < manyOf a b c d) :
    a ≤ a + ((t % (c - a + 1).toNat : Nat) : Int) ∧ a + ((t % (c - a + 1).toNat : Nat) : Int) ≤ c ∧ b ≤ b + ((t / (c - a + 1).toNat : Nat) : Int) ∧ b + ((t / (c - a + 1).toNat : Nat) : Int) ≤ d := by
  have e : manyOf a b c d = (d - b + 1).toNat * (c - a + 1).toNat := by rw [manyOf, h, Nat.mul_comm]; rfl
  simp only [areaOkB, refOkB, Bool.and_eq_true, decide_eq_true_eq] at h
  have h1 : t % (c - a + 1).toNat < (c - a + 1).toNat := Nat.mod_lt _ (by omega)
  have h2 : t / (c - a + 1).toNat < (d - b + 1).toNat := by rw [e] at ht; exact Nat.div_lt_of_lt_mul (by rw [Nat.mul_comm]; exact ht)
  generalize t % (c - a + 1).toNat = p at *
  generalize t / (c - a + 1).toNat = q at *
  omega
/-- The cells as numbers. -/
theorem cellsX_get (fc fr : Int) (nc : Nat) {m t : Nat} (h : t < m) : (cellsX fc fr nc m)[t * 2]? = some (.int .i64 (fc + (t % nc : Nat))) ∧ (cellsX fc fr nc m)[t * 2 + 1]? = some (.int .i64 (fr + (t / nc : Nat))) := by
  induction m with
  | zero => omega
  | succ m ih =>
    rw [cellsX_succ]
    have hl := cellsX_len fc fr nc m
    by_cases e : t < m
    · rw [List.getElem?_append_left (by omega), List.getElem?_append_left (by omega)]
      exact ih e
    · obtain rfl : t = m := by omega
      rw [List.getElem?_append_right (by omega), List.getElem?_append_right (by omega), hl]
      simp
end Go.Proofs.Ytagmmlipaihilaa
