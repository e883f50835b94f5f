import Derived.Test.YtanjlpgdmnapdaaFoM
namespace Go.Proofs.Ytanjlpgdmnapdaa
open Go.RowKit Go.Maps
set_option linter.unusedSimpArgs false
set_option linter.unusedVariables false

theorem bl_eqL : ∀ a b : List UInt8, Op.bytesLess a b = bytesBefore a b
  | [], [] => rfl
  | [], _ :: _ => rfl
  | _ :: _, [] => rfl
  | a :: x, b :: y => by
    rw [Op.bytesLess, bytesBefore, bl_eqL x y]
theorem bl_eq (a b : ByteArray) : Op.bytesLess a.toList b.toList = bytesBefore a.data.toList b.data.toList := by
  rw [bl_eqL, ByteArray.toList_eq, ByteArray.toList_eq]
theorem impl_fileName (n d : ByteArray) (w : World) : Calls Try.prog 77 #[.agg #[.string n, .string d]] w fun e w' => e = .returned (.string n) ∧ Below w.heap.size w w' := by
  go_enter Try.func77, Try.ntmps77
  go_wp2_with fail
  go_ret
  exact ⟨rfl, by go_grown⟩
def nameB (s : ByteArray) : Bool := decide (1 ≤ s.size ∧ s.size ≤ 100)
theorem impl_isFileName (s : ByteArray) (w : World) (hs : s.size ≤ maxLen) : Calls Try.prog 78 #[.string s] w fun e w' => e = .returned (.bool (nameB s)) ∧ w' = w := by
  unfold maxLen at hs
  by_cases h1 : 1 ≤ (s.size : Int)
  · by_cases h2 : (s.size : Int) ≤ 100
    · go_enter Try.func78, Try.ntmps78
      go_wp2_with fail
      go_ret
      exact ⟨ret_bool (by unfold nameB; symm; rw [decide_eq_true_eq]; omega), rfl⟩
    · go_enter Try.func78, Try.ntmps78
      go_wp2_with fail
      go_ret
      exact ⟨ret_bool (by unfold nameB; symm; rw [decide_eq_false_iff_not]; omega), rfl⟩
  · go_enter Try.func78, Try.ntmps78
    go_wp2_with fail
    go_ret
    exact ⟨ret_bool (by unfold nameB; symm; rw [decide_eq_false_iff_not]; omega), rfl⟩
set_option maxHeartbeats 2000000 in
theorem impl_risesF {A : Option Addr} {n cap : Nat} {L : List FI} (w : World) (h : FiRow w A L) (hL : L.length = n) :
    Calls Try.prog 76 #[.slice A n cap, .func (.func 77) #[] #[]] w fun e w' => e = .returned (.bool (ascB L)) ∧ Below w.heap.size w w' := by
  have HR : Hid (FiRow w A L) := h
  have HL : Hid (L.length = n) := hL
  have hn := h.1
  rw [hL] at hn
  unfold maxLen at hn
  clear h hL
  go_enter Try.func76, Try.ntmps76
  go_wp2_with fail
  go_loopw [5] (fun i wr => ∃ t : Nat, i = .int .i64 (t : Int) ∧ 1 ≤ t ∧ t ≤ n + 1 ∧ (∀ j x y, j + 1 < t → L[j]? = some x → L[j + 1]? = some y → bytesBefore (fiK x) (fiK y) = true) ∧ Below w.heap.size w wr) (fun i _ => n + 1 - (intOf i).toNat)
  case atStart => exact ⟨1, rfl, Nat.le_refl _, by omega, fun j x y hj => by omega, Below.refl _ _⟩
  case round =>
    obtain ⟨t, rfl, ht1, ht, hall, hbel⟩ := hrel
    have HA : Hid (∀ j x y, j + 1 < t → L[j]? = some x → L[j + 1]? = some y → bytesBefore (fiK x) (fiK y) = true) := hall
    clear hall
    by_cases hlt : t < n
    · obtain ⟨m, HM⟩ : ∃ m, Hid (t = m + 1) := ⟨t - 1, (by omega : t = t - 1 + 1)⟩
      obtain ⟨x, hx⟩ := at_lt HL.out (show m < n by have := HM.out; omega)
      obtain ⟨y, hy⟩ := at_lt HL.out hlt
      have HX : Hid (L[m]? = some x) := hx
      have HY : Hid (L[m + 1]? = some y) := by have h := hy; rw [HM.out] at h; exact h
      obtain ⟨b, o, rfl, hl, hc⟩ := HR.out.2 m x hx
      have c0 : w.cell? ⟨b, o + m * 2, none⟩ = some (.string x.n) := hc 0 _ rfl
      have c1 : w.cell? ⟨b, o + m * 2 + 1, none⟩ = some (.string x.d) := hc 1 _ rfl
      obtain ⟨b', o', e, _, hc'⟩ := HR.out.2 t y hy
      cases e
      have d0 : w.cell? ⟨b, o + t * 2, none⟩ = some (.string y.n) := hc' 0 _ rfl
      have d1 : w.cell? ⟨b, o + t * 2 + 1, none⟩ = some (.string y.d) := hc' 1 _ rfl
      clear hc hc' hx hy
      have hs := hbel.size
      have hW := fun b o h => hbel.cell (p := ⟨b, o, none⟩) h
      have q0 : (0 : Int) ≤ (t : Int) := by omega
      have q1 : (t : Int) < (n : Int) := by omega
      have q2 : (0 : Int) ≤ (m : Int) := by omega
      have q3 : (m : Int) < (n : Int) := by have := HM.out; omega
      have q4 : IntKind.i64.wrap ((t : Int) - 1) = (m : Int) := by rw [IntKind.wrap_i64]; have := HM.out; omega
      cases hq : bytesBefore (fiK x) (fiK y)
      · have hq2 : Op.bytesLess x.n.toList y.n.toList = false := (bl_eq _ _).trans hq
        have HQ : Hid (bytesBefore (fiK x) (fiK y) = false) := hq
        clear hq
        go_wp2_with fail
        go_region_held3 (fun w' => (∀ bq oq, bq < w.heap.size → w'.cell? ⟨bq, oq, none⟩ = w.cell? ⟨bq, oq, none⟩) ∧ w.heap.size ≤ w'.heap.size ∧ Below w.heap.size w w')
          (exact sc_of (Nat.le_refl _) (by go_grown))
          (first
          | (go_at_call 77; refine (impl_fileName _ _ _).mono ?_; rintro e w1 ⟨rfl, hb⟩; obtain ⟨hk1, hz1⟩ := bframe (B := w.heap.size) (X := w) (by go_grown) (by go_size) hb; clear hb))
        all_goals
          go_wp2_with fail
          go_ret
          exact ⟨ret_bool (asc_no HX.out HY.out HQ.out).symm, by go_grown⟩
      · have hq2 : Op.bytesLess x.n.toList y.n.toList = true := (bl_eq _ _).trans hq
        have HQ : Hid (bytesBefore (fiK x) (fiK y) = true) := hq
        clear hq
        go_wp2_with fail
        go_region_held3 (fun w' => (∀ bq oq, bq < w.heap.size → w'.cell? ⟨bq, oq, none⟩ = w.cell? ⟨bq, oq, none⟩) ∧ w.heap.size ≤ w'.heap.size ∧ Below w.heap.size w w')
          (exact sc_of (Nat.le_refl _) (by go_grown))
          (first
          | (go_at_call 77; refine (impl_fileName _ _ _).mono ?_; rintro e w1 ⟨rfl, hb⟩; obtain ⟨hk1, hz1⟩ := bframe (B := w.heap.size) (X := w) (by go_grown) (by go_size) hb; clear hb))
        all_goals
          go_wp2_with fail
          go_roundw
          case rel => exact ⟨t + 1, by go_num, by omega, by omega, fun j u v hj hu hv => by
            by_cases e : j = m
            · subst e; rw [HX.out] at hu; rw [HY.out] at hv; cases hu; cases hv; exact HQ.out
            · exact HA.out j u v (by have := HM.out; omega) hu hv, by go_grown⟩
          case measure => simp [intOf]; omega
    · have h1 : ¬ (t : Int) < (n : Int) := by omega
      go_wp2_with fail
      go_ret
      exact ⟨ret_bool (by symm; exact asc_of fun j x y hx hy => HA.out j x y (by have := (List.getElem?_eq_some_iff.1 hy).1; have := HL.out; omega) hx hy), hbel⟩
end Go.Proofs.Ytanjlpgdmnapdaa
