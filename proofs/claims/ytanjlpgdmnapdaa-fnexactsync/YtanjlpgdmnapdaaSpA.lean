import Derived.Test.YtanjlpgdmnapdaaFoF
import Derived.WalkSmall
namespace Go.Proofs.Ytanjlpgdmnapdaa
open Go.RowKit Go.Maps
set_option linter.unusedSimpArgs false
set_option linter.unusedVariables false

theorem spec_l13Name (s : ByteArray) (w : World) (hs : s.size ≤ maxLen) : Calls Try.prog 83 #[.string s] w fun e w' => e = .returned (.bool (nameB s)) ∧ w' = w := by
  unfold maxLen at hs
  by_cases h1 : 1 ≤ (s.size : Int)
  · by_cases h2 : (s.size : Int) ≤ 100
    · go_enter Try.func83, Try.ntmps83
      go_wp2_with fail
      go_ret
      exact ⟨ret_bool (by unfold nameB; symm; rw [decide_eq_true_eq]; omega), rfl⟩
    · go_enter Try.func83, Try.ntmps83
      go_wp2_with fail
      go_ret
      exact ⟨ret_bool (by unfold nameB; symm; rw [decide_eq_false_iff_not]; omega), rfl⟩
  · go_enter Try.func83, Try.ntmps83
    go_wp2_with fail
    go_ret
    exact ⟨ret_bool (by unfold nameB; symm; rw [decide_eq_false_iff_not]; omega), rfl⟩
theorem totL_next {L : List FI} {t : Nat} {x : FI} (hx : L[t]? = some x) : totL (L.take (t + 1)) = totL (L.take t) + x.d.size := by
  rw [List.take_add_one, hx, totL_app]
  simp [totL]
/-- Three ways of two names. -/
theorem three (a b : ByteArray) : (bytesBefore a.data.toList b.data.toList = true ∧ Op.bytesLess a.toList b.toList = true ∧ (a.toList == b.toList) = false ∧ Op.bytesLess b.toList a.toList = false) ∨
    (a.data.toList = b.data.toList ∧ bytesBefore a.data.toList b.data.toList = false ∧ Op.bytesLess a.toList b.toList = false ∧ (a.toList == b.toList) = true ∧ Op.bytesLess b.toList a.toList = false) ∨
    (bytesBefore b.data.toList a.data.toList = true ∧ bytesBefore a.data.toList b.data.toList = false ∧ Op.bytesLess a.toList b.toList = false ∧ (a.toList == b.toList) = false ∧ Op.bytesLess b.toList a.toList = true) := by
  by_cases e : a.data.toList = b.data.toList
  · have e2 : a = b := ByteArray.ext (Array.toList_inj.1 e)
    subst e2
    exact Or.inr (Or.inl ⟨rfl, bb_irr _, by rw [bl_eq, bb_irr], by simp, by rw [bl_eq, bb_irr]⟩)
  · have hne : (a.toList == b.toList) = false := by
      apply str_ne
      rintro rfl
      exact e rfl
    cases h : bytesBefore a.data.toList b.data.toList
    · have h2 := bb_tot h e
      exact Or.inr (Or.inr ⟨h2, rfl, by rw [bl_eq, h], hne, by rw [bl_eq, h2]⟩)
    · exact Or.inl ⟨rfl, by rw [bl_eq, h], hne, by rw [bl_eq, bb_asym h]⟩

set_option maxRecDepth 100000 in
set_option maxHeartbeats 4000000 in
theorem spec_l13Files {A : Option Addr} {n cap : Nat} {L : List FI} (w : World) (h : FiRow w A L) (hL : L.length = n) (hx : ∀ x ∈ L, x.n.size ≤ maxLen) (hT : totL L ≤ 1099511627776) (hn : n ≤ 1099511627776) :
    Calls Try.prog 46 #[.slice A n cap] w fun e w' => e = .returned (.bool (filesB L)) ∧ Below w.heap.size w w' := by
  have HR : Hid (FiRow w A L) := h
  have HL : Hid (L.length = n) := hL
  have HX : Hid (∀ x ∈ L, x.n.size ≤ maxLen) := hx
  have HT : Hid (totL L ≤ 1099511627776) := hT
  clear h hL hx hT
  by_cases h60 : (60 : Int) < (n : Int)
  · have HE : Hid (filesB L = false) := by
      show _ = _
      rw [filesB, decide_eq_false (by rw [HL.out]; omega)]; rfl
    go_enter Try.func46, Try.ntmps46
    go_wp2_with fail
    go_ret
    exact ⟨ret_bool HE.out.symm, by go_grown⟩
  have HE : Hid (filesB L = (ascB L && (L.all (fun x => nameB x.n) && decide (totL L ≤ 200000)))) := by
    show _ = _
    rw [filesB, decide_eq_true (by rw [HL.out]; omega)]; rfl
  go_enter Try.func46, Try.ntmps46
  go_wp2_with fail
  go_loopw [3, 4] (fun q i wr => ∃ t : Nat, t ≤ n ∧ i = .int .i64 t ∧ q = .int .i64 (totL (L.take t) : Nat) ∧ (∀ j x, j < t → L[j]? = some x → nameB x.n = true) ∧ (∀ j x y, j + 1 < t → L[j]? = some x → L[j + 1]? = some y → bytesBefore (fiK x) (fiK y) = true) ∧ Below w.heap.size w wr) (fun _ i _ => n - (intOf i).toNat)
  case atStart => exact ⟨0, Nat.zero_le _, rfl, rfl, fun j x hj => by omega, fun j x y hj => by omega, Below.refl _ _⟩
  case round =>
    obtain ⟨t, ht, rfl, rfl, hnm, has, hbel⟩ := hrel
    have HNM : Hid (∀ j x, j < t → L[j]? = some x → nameB x.n = true) := hnm
    have HAS : Hid (∀ j x y, j + 1 < t → L[j]? = some x → L[j + 1]? = some y → bytesBefore (fiK x) (fiK y) = true) := has
    clear hnm has
    obtain ⟨su, HSU⟩ : ∃ su, Hid (totL (L.take t) = su) := ⟨_, rfl⟩
    rw [HSU.out]
    by_cases hlt : t < n
    · obtain ⟨x, hx⟩ := at_lt HL.out hlt
      have HXT : Hid (L[t]? = some x) := hx
      obtain ⟨b, o, rfl, hl, hc⟩ := HR.out.2 t x hx
      have c0 : w.cell? ⟨b, o + t * 2, none⟩ = some (.string x.n) := hc 0 _ rfl
      have c1 : w.cell? ⟨b, o + t * 2 + 1, none⟩ = some (.string x.d) := hc 1 _ rfl
      clear hc hx
      rw [← hbel.cell (p := ⟨_, _, none⟩) hl] at c0 c1
      have q0 : (0 : Int) ≤ (t : Int) := by omega
      have q1 : (t : Int) < (n : Int) := by omega
      have hb1 : su ≤ 1099511627776 ∧ x.d.size ≤ 1099511627776 := by
        have h1 := totL_next HXT.out
        have h2 := totL_take L (t + 1)
        have h3 := HT.out
        rw [HSU.out] at h1
        omega
      obtain ⟨hb1, hb2⟩ := hb1
      have HSX : Hid (x.n.size ≤ maxLen) := HX.out x (List.mem_of_getElem? HXT.out)
      have HNX : Hid (totL (L.take (t + 1)) = su + x.d.size) := by show _ = _; rw [totL_next HXT.out, HSU.out]
      cases hnx : nameB x.n
      · have HF : Hid (filesB L = false) := by
          show _ = _
          rw [HE.out, show L.all (fun x => nameB x.n) = false from List.all_eq_false.2 ⟨x, List.mem_of_getElem? HXT.out, by simp [hnx]⟩]
          simp
        have FT : Hid (∀ W : World, Calls Try.prog 83 #[.string x.n] W fun e w' => e = .returned (.bool false) ∧ w' = W) := fun W => by
          have hh := spec_l13Name x.n W HSX.out
          rw [hnx] at hh
          exact hh
        clear hnx
        go_wp2_with fail
        go_quiet ((go_at_call 83; refine Calls.quiet_of_same (FT.out _)))
        go_wp2_with fail
        go_ret
        exact ⟨ret_bool HF.out.symm, below_drewN hbel _⟩
      · have HNT : Hid (nameB x.n = true) := hnx
        have FT : Hid (∀ W : World, Calls Try.prog 83 #[.string x.n] W fun e w' => e = .returned (.bool true) ∧ w' = W) := fun W => by
          have hh := spec_l13Name x.n W HSX.out
          rw [hnx] at hh
          exact hh
        clear hnx
        by_cases ht0 : t = 0
        · have q5 : decide (0 < t) = false := decide_eq_false (by omega)
          have HT0 : Hid (t = 0) := ht0
          clear ht0
          go_wp2_with fail
          go_quiet ((go_at_call 83; refine Calls.quiet_of_same (FT.out _)))
          go_wp2_with fail
          go_roundw
          case rel => exact ⟨t + 1, by omega, by go_num, by rw [HNX.out]; simp, fun j u hj hu => by
            obtain rfl : j = t := by have := HT0.out; omega
            rw [HXT.out] at hu; cases hu; exact HNT.out, fun j u v hj => by have := HT0.out; omega, below_drewN hbel _⟩
          case measure => simp [intOf]; omega
        · obtain ⟨m, HM⟩ : ∃ m, Hid (t = m + 1) := ⟨t - 1, (by omega : t = t - 1 + 1)⟩
          obtain ⟨y, hy⟩ := at_lt HL.out (show m < n by have := HM.out; omega)
          have HY : Hid (L[m]? = some y) := hy
          have HXM : Hid (L[m + 1]? = some x) := by have h := HXT.out; rw [HM.out] at h; exact h
          obtain ⟨b', o', e, _, hc'⟩ := HR.out.2 m y hy
          cases e
          have d0 : w.cell? ⟨b, o + m * 2, none⟩ = some (.string y.n) := hc' 0 _ rfl
          clear hc' hy
          rw [← hbel.cell (p := ⟨_, _, none⟩) hl] at d0
          have q2 : (0 : Int) ≤ (m : Int) := by omega
          have q3 : (m : Int) < (n : Int) := by have := HM.out; omega
          have q4 : IntKind.i64.wrap ((t : Int) - 1) = (m : Int) := by rw [IntKind.wrap_i64]; have := HM.out; omega
          have q5 : decide (0 < t) = true := decide_eq_true (by omega)
          rcases three y.n x.n with ⟨b1, b2, b3, b4⟩ | ⟨b0, b1, b2, b3, b4⟩ | ⟨b0, b1, b2, b3, b4⟩
          · have HB1 : Hid (bytesBefore (fiK y) (fiK x) = true) := b1
            have b5 : (x.n.toList == y.n.toList) = false := by cases e : (x.n.toList == y.n.toList) <;> simp_all
            clear b1
            go_wp2_with fail
            go_quiet ((go_at_call 83; refine Calls.quiet_of_same (FT.out _)))
            go_wp2_with fail
            go_roundw
            case rel => exact ⟨t + 1, by omega, by go_num, by rw [HNX.out]; simp, fun j u hj hu => by
              by_cases e : j = t
              · subst e; rw [HXT.out] at hu; cases hu; exact HNT.out
              · exact HNM.out j u (by omega) hu, fun j u v hj hu hv => by
              by_cases e : j = m
              · subst e; rw [HY.out] at hu; rw [HXM.out] at hv; cases hu; cases hv; exact HB1.out
              · exact HAS.out j u v (by have := HM.out; omega) hu hv, below_drewN hbel _⟩
            case measure => simp [intOf]; omega
          all_goals
            have HF : Hid (filesB L = false) := by
              show _ = _
              rw [HE.out, asc_no HY.out HXM.out b1]; rfl
            have b5 : (x.n.toList == y.n.toList) = (y.n.toList == x.n.toList) := by
              cases e1 : (x.n.toList == y.n.toList) <;> cases e2 : (y.n.toList == x.n.toList) <;> simp_all
            rw [b3] at b5
            clear b0 b1
            go_wp2_with fail
            go_quiet ((go_at_call 83; refine Calls.quiet_of_same (FT.out _)))
            go_wp2_with fail
            go_ret
            exact ⟨ret_bool HF.out.symm, below_drewN hbel _⟩
    · have h1 : ¬ (t : Int) < (n : Int) := by omega
      obtain rfl : t = n := by omega
      have HS2 : Hid (su = totL L) := by
        show _ = _
        rw [← HSU.out, List.take_of_length_le (by rw [HL.out]; exact Nat.le_refl _)]
      have HF : Hid (filesB L = decide ((su : Int) ≤ 200000)) := by
        show _ = _
        rw [HE.out, asc_of (fun j x y hx hy => HAS.out j x y (by have := (List.getElem?_eq_some_iff.1 hy).1; have := HL.out; omega) hx hy), List.all_eq_true.2 (fun x hx => by
          obtain ⟨j, hj, e⟩ := List.getElem_of_mem hx
          exact HNM.out j x (by rw [← HL.out]; exact hj) (by rw [List.getElem?_eq_getElem hj, e])), HS2.out]
        simp only [Bool.true_and]
        exact decide_eq_decide.2 (by omega)
      go_wp2_with fail
      go_ret
      exact ⟨ret_bool HF.out.symm, hbel⟩
end Go.Proofs.Ytanjlpgdmnapdaa
