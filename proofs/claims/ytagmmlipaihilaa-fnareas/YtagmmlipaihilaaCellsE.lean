import Derived.Test.YtagmmlipaihilaaCellsA
import Derived.WalkKit
namespace Go.Proofs.Ytagmmlipaihilaa
open Go.RowKit

theorem infoRef : (Try.prog.info? 25).map (fun i => (i.zero, i.size, i.bytes)) = some (some (.agg #[.int .i64 0, .int .i64 0]), 2, 16) := by kernel_rfl

/-- The first m cells of an area with nc columns, each as two numbers. -/
def cellsX (fc fr : Int) (nc m : Nat) : List Value := (List.range m).flatMap fun t => [.int .i64 (fc + (t % nc : Nat)), .int .i64 (fr + (t / nc : Nat))]
theorem cellsX_succ (fc fr : Int) (nc m : Nat) : cellsX fc fr nc (m + 1) = cellsX fc fr nc m ++ [.int .i64 (fc + (m % nc : Nat)), .int .i64 (fr + (m / nc : Nat))] := by
  simp [cellsX, List.range_succ, List.flatMap_append]
theorem cellsX_at {fc fr : Int} {nc i j : Nat} (h : j < nc) : cellsX fc fr nc (i * nc + j + 1) = cellsX fc fr nc (i * nc + j) ++ [.int .i64 (fc + (j : Nat)), .int .i64 (fr + (i : Nat))] := by
  have h1 : (i * nc + j) % nc = j := by rw [Nat.mul_add_mod_self_right, Nat.mod_eq_of_lt h]
  have h2 : (i * nc + j) / nc = i := by
    rw [Nat.add_comm, Nat.add_mul_div_right _ _ (by omega), Nat.div_eq_of_lt h]; omega
  rw [cellsX_succ, h1, h2]
/-- How many cells an area has. -/
def manyOf (a b c d : Int) : Nat := if areaOkB a b c d then (c - a + 1).toNat * (d - b + 1).toNat else 0

theorem own_mono {W : World} {B B' : Nat} {e : TypeId} {size n : Nat} {v : Value} {xs : List Value} (h : W.ownsRow B e size v n xs) (hB : B' ≤ B) : W.ownsRow B' e size v n xs := by
  refine ⟨h.1, ?_⟩
  rcases h.2 with hn | ⟨g, cap, cur, rfl, hb, rest⟩
  · exact .inl hn
  · exact .inr ⟨g, cap, cur, rfl, Nat.le_trans hB hb, rest⟩
/-- What an append of one element onto a row of the call's own, whose blocks lie behind its argument's, leaves of that argument and of what was there. -/
theorem app_step {w wi w1 : World} {e : TypeId} {size n : Nat} {v : Value} {xs : List Value} {o : Obj} (hown : wi.ownsRow (w.heap.size + 1) e size v n xs) (hbel : Below w.heap.size w wi) (hz : w.heap.size + 1 ≤ wi.heap.size)
    (hg : (wi.alloc o).grownBy w1 v.ownBlock) : (∀ p x, wi.cell? ⟨w.heap.size, p, none⟩ = some x → w1.cell? ⟨w.heap.size, p, none⟩ = some x) ∧ Below w.heap.size w w1 ∧ w.heap.size + 1 ≤ w1.heap.size := by
  have hr : ∀ k, v.ownBlock = some k → w.heap.size + 1 ≤ k := fun k hk => (hown.lt k hk).1
  have ha : Below w.heap.size w (wi.alloc o) := hbel.alloc (by omega) o
  have hs : (wi.alloc o).heap.size = wi.heap.size + 1 := by simp
  refine ⟨fun p x hc => hg.cell ?_ (fun e => ?_), ha.grown hg (by omega) (fun k hk => by have := hr k hk; omega), by have := hg.size; omega⟩
  · rw [← hc]
    exact ((Below.refl wi.heap.size wi).alloc (Nat.le_refl _) o).cell (p := ⟨w.heap.size, p, none⟩) (by show w.heap.size < _; omega)
  · have := hr _ e.symm
    simp only at this
    omega

theorem own_below {W w' : World} {B : Nat} {e : TypeId} {size n : Nat} {v : Value} {xs : List Value} (h : W.ownsRow B e size v n xs) (hb : Below W.heap.size W w') : w'.ownsRow B e size v n xs := by
  refine ⟨h.1, ?_⟩
  rcases h.2 with hn | ⟨g, cap, cur, rfl, hB, hgg, rest⟩
  · exact .inl hn
  · exact .inr ⟨g, cap, cur, rfl, hB, by rw [hb.block g (Array.getElem?_eq_some_iff.1 hgg).1]; exact hgg, rest⟩
theorem own_empty {W : World} {B g : Nat} {e : TypeId} {size : Nat} (hB : B ≤ W.heap.size) (hg : g = W.heap.size) : (W.alloc (.cells #[] e)).ownsRow B e size (.slice (some ⟨g, 0, none⟩) 0 0) 0 [] := by
  subst hg
  exact World.ownsRow_made W #[] 0 hB (Nat.zero_le _) (by simp)

set_option maxHeartbeats 4000000 in
theorem impl_CellsOf (a b c d : Int) (w : World) : Calls Try.prog 12 #[.agg #[.int .i64 a, .int .i64 b, .int .i64 c, .int .i64 d]] w fun e w' =>
    ∃ v, e = .returned v ∧ w'.ownsRow w.heap.size 25 2 v (manyOf a b c d) (cellsX a b (c - a + 1).toNat (manyOf a b c d)) ∧ Below w.heap.size w w' := by
  cases ho : areaOkB a b c d
  · have HO : Hid (areaOkB a b c d = false) := ho
    go_enter Try.func12, Try.ntmps12
    go_wp2_with (first
      | (go_at_call 17; refine (impl_AreaOk _ _ _ _ _).mono ?_; rintro e w1 ⟨rfl, hb⟩; rw [HO.out]; obtain ⟨hc, hf, hC, hF, hz, hk, l0⟩ := bk1 (w := w) (by go_grown) (by go_size) hb; clear hb))
    go_ret
    refine ⟨_, rfl, ?_, by go_grown⟩
    have e : manyOf a b c d = 0 := by simp [manyOf, HO.out]
    rw [e]
    exact World.ownsRow_nil _ _ _ _
  · have HO : Hid (areaOkB a b c d = true) := ho
    have hA : 1 ≤ a ∧ a ≤ c ∧ c ≤ 52 ∧ 1 ≤ b ∧ b ≤ d ∧ d ≤ 99 := by
      simp only [areaOkB, refOkB, Bool.and_eq_true, decide_eq_true_eq] at ho
      omega
    clear ho
    obtain ⟨i0, hi, hz0, hz1, hz2⟩ := info_parts infoRef
    obtain ⟨nc, HC, HC2⟩ : ∃ nc : Nat, Hid (c = a + (nc : Int) - 1) ∧ Hid ((c - a + 1).toNat = nc) := ⟨(c - a + 1).toNat, (by omega : c = _), rfl⟩
    obtain ⟨nr, HR, HR2⟩ : ∃ nr : Nat, Hid (d = b + (nr : Int) - 1) ∧ Hid ((d - b + 1).toNat = nr) := ⟨(d - b + 1).toNat, (by omega : d = _), rfl⟩
    obtain ⟨a1, a2, a3, b1, b2, b3⟩ := hA
    have HN : Hid (nc ≤ 52 ∧ nr ≤ 99) := by have h1 := HC.out; have h2 := HR.out; exact (⟨by omega, by omega⟩ : nc ≤ 52 ∧ nr ≤ 99)
    go_enter Try.func12, Try.ntmps12
    go_wp2_with (first
      | (go_at_call 17; refine (impl_AreaOk _ _ _ _ _).mono ?_; rintro e w1 ⟨rfl, hb⟩; rw [HO.out]; obtain ⟨hc, hf, hC, hF, hz, hk, l0⟩ := bk1 (w := w) (by go_grown) (by go_size) hb; clear hb))
    go_loopw [3, 4] (fun v i wr => ∃ k : Nat, k ≤ nr ∧ i = .int .i64 (b + k) ∧ wr.ownsRow (w.heap.size + 1) 25 2 v (k * nc) (cellsX a b nc (k * nc)) ∧ wr.cell? ⟨w.heap.size, 0, none⟩ = some (.int .i64 a) ∧ wr.cell? ⟨w.heap.size, 2, none⟩ = some (.int .i64 c) ∧ wr.cell? ⟨w.heap.size, 3, none⟩ = some (.int .i64 d) ∧ Below w.heap.size w wr ∧ w.heap.size + 1 ≤ wr.heap.size)
      (fun _ i _ => (d + 1 - intOf i).toNat)
    case atStart => exact ⟨0, Nat.zero_le _, by simp, by rw [Nat.zero_mul]; exact World.ownsRow_nil _ _ _ _, by simp [*], by simp [*], by simp [*], by go_grown, by omega⟩
    case round =>
      obtain ⟨k, hk, rfl, hown, c0, c2, c3, hbel, hsz⟩ := hrel
      have HW : Hid (wr.ownsRow (w.heap.size + 1) 25 2 u3 (k * nc) (cellsX a b nc (k * nc))) := hown
      clear hown
      by_cases hlt : k < nr
      · have h1 : b + (k : Int) ≤ d := by have := HR.out; omega
        go_wp2_with fail
        go_loopw [3, 5] (fun v' i' wi => ∃ j : Nat, j ≤ nc ∧ i' = .int .i64 (a + j) ∧ wi.ownsRow (w.heap.size + 1) 25 2 v' (k * nc + j) (cellsX a b nc (k * nc + j)) ∧ wi.cell? ⟨w.heap.size, 0, none⟩ = some (.int .i64 a) ∧ wi.cell? ⟨w.heap.size, 2, none⟩ = some (.int .i64 c) ∧ wi.cell? ⟨w.heap.size, 3, none⟩ = some (.int .i64 d) ∧ Below w.heap.size w wi ∧ w.heap.size + 1 ≤ wi.heap.size)
          (fun _ i _ => (c + 1 - intOf i).toNat)
        case atStart => exact ⟨0, Nat.zero_le _, by simp, HW.out, c0, c2, c3, hbel, hsz⟩
        case round =>
          clear HW c0 c2 c3 hbel hsz
          obtain ⟨j, hj, rfl, hown, c0, c2, c3, hbel, hsz⟩ := hrel
          have HW : Hid (wr.ownsRow (w.heap.size + 1) 25 2 u3 (k * nc + j) (cellsX a b nc (k * nc + j))) := hown
          clear hown
          by_cases hlt' : j < nc
          · have h2 : a + (j : Int) ≤ c := by have := HC.out; omega
            have HM : Hid (k * nc + j ≤ 5200) := by
              have h3 := HN.out
              have h4 : k * nc ≤ 99 * 52 := Nat.mul_le_mul (by omega) h3.1
              exact (by omega : k * nc + j ≤ 5200)
            go_wp2_with (first
              | (at_builtin; refine wpList_append_own _ rfl _ _ 30 rfl (w.heap.size + 1) 25 i0 (.agg #[.int .i64 0, .int .i64 0]) 2 16 Try.underlying30 hi hz0 hz1 hz2 rfl (by decide) _ _ _ rfl (HW.out.alloc _) ⟨wr.heap.size, 0, none⟩ 1 1 [.int .i64 (a + j), .int .i64 (b + k)] rfl rfl ?c1 ?c2 ?c3 ?c4 ?c5 ?_)
              | go_in)
            case c1 =>
              intro q u hq
              match q, hq with
              | 0, hq => simp at hq; subst hq; simp [Addr.add]
              | 1, hq => simp at hq; subst hq; simp [Addr.add]
            case c2 => intro u hu; simp at hu; rcases hu with rfl | rfl <;> rfl
            case c3 => have := HM.out; unfold maxLen; omega
            case c4 => have := HM.out; omega
            case c5 => simp; omega
            intro v' w1 hown' hgrow _
            obtain ⟨R1, R2, R3⟩ := app_step HW.out hbel hsz hgrow
            have HW' : Hid (w1.ownsRow (w.heap.size + 1) 25 2 v' (k * nc + j + 1) (cellsX a b nc (k * nc + j + 1))) := by show World.ownsRow _ _ _ _ _ _ _; rw [cellsX_at hlt']; exact hown'
            have d0 := R1 _ _ c0
            have d2 := R1 _ _ c2
            have d3 := R1 _ _ c3
            clear hown' hgrow R1 c0 c2 c3 HW hbel hsz
            go_wp2_with fail
            go_roundw
            case rel => exact ⟨j + 1, by omega, by go_num, HW'.out, d0, d2, d3, R2, R3⟩
            case measure => simp [intOf]; omega
          · have h2 : ¬ a + (j : Int) ≤ c := by have := HC.out; omega
            obtain rfl : j = nc := by omega
            go_wp2_with fail
            go_roundw
            case rel => exact ⟨k + 1, by omega, by go_num, by rw [Nat.succ_mul]; exact HW.out, c0, c2, c3, hbel, hsz⟩
            case measure => simp [intOf]; omega
      · have h1 : ¬ b + (k : Int) ≤ d := by have := HR.out; omega
        obtain rfl : k = nr := by omega
        go_wp2_with fail
        go_ret
        have e : manyOf a b c d = k * nc := by rw [manyOf, HO.out, HC2.out, HR2.out, Nat.mul_comm]; rfl
        exact ⟨_, rfl, by rw [HC2.out, e]; exact own_mono HW.out (by omega), hbel⟩

set_option maxHeartbeats 4000000 in
theorem spec_CellsOf (a b c d : Int) (w : World) : Calls Try.prog 16 #[.agg #[.int .i64 a, .int .i64 b, .int .i64 c, .int .i64 d]] w fun e w' =>
    ∃ v, e = .returned v ∧ w'.ownsRow w.heap.size 25 2 v (manyOf a b c d) (cellsX a b (c - a + 1).toNat (manyOf a b c d)) ∧ Below w.heap.size w w' := by
  cases ho : areaOkB a b c d
  · have HO : Hid (areaOkB a b c d = false) := ho
    go_enter Try.func16, Try.ntmps16
    go_wp2_with (first
      | (go_at_call 18; refine (spec_AreaOk _ _ _ _ _).mono ?_; rintro e w1 ⟨rfl, hb⟩; rw [HO.out]; have HV : Hid (w1.ownsRow (w.heap.size + 1) 25 2 (.slice (some ⟨w.heap.size + 1, 0, none⟩) 0 0) 0 []) := own_below (own_empty (by go_size) (by simp)) hb; obtain ⟨hc, hf, hC, hF, hz, hk, l0, l1⟩ := bk2 (w := w) (by go_grown) (by go_size) hb; clear hb))
    go_ret
    refine ⟨_, rfl, ?_, by go_grown⟩
    have e : manyOf a b c d = 0 := by simp [manyOf, HO.out]
    rw [e]
    exact own_mono HV.out (by omega)
  · have HO : Hid (areaOkB a b c d = true) := ho
    have hA : 1 ≤ a ∧ a ≤ c ∧ c ≤ 52 ∧ 1 ≤ b ∧ b ≤ d ∧ d ≤ 99 := by
      simp only [areaOkB, refOkB, Bool.and_eq_true, decide_eq_true_eq] at ho
      omega
    clear ho
    obtain ⟨i0, hi, hz0, hz1, hz2⟩ := info_parts infoRef
    obtain ⟨nc, HC, HC2⟩ : ∃ nc : Nat, Hid (c = a + (nc : Int) - 1) ∧ Hid ((c - a + 1).toNat = nc) := ⟨(c - a + 1).toNat, (by omega : c = _), rfl⟩
    obtain ⟨nr, HR, HR2⟩ : ∃ nr : Nat, Hid (d = b + (nr : Int) - 1) ∧ Hid ((d - b + 1).toNat = nr) := ⟨(d - b + 1).toNat, (by omega : d = _), rfl⟩
    obtain ⟨a1, a2, a3, b1, b2, b3⟩ := hA
    have HN : Hid (nc ≤ 52 ∧ nr ≤ 99) := by have h1 := HC.out; have h2 := HR.out; exact (⟨by omega, by omega⟩ : nc ≤ 52 ∧ nr ≤ 99)
    go_enter Try.func16, Try.ntmps16
    go_wp2_with (first
      | (go_at_call 18; refine (spec_AreaOk _ _ _ _ _).mono ?_; rintro e w1 ⟨rfl, hb⟩; rw [HO.out]; have HV : Hid (w1.ownsRow (w.heap.size + 1) 25 2 (.slice (some ⟨w.heap.size + 1, 0, none⟩) 0 0) 0 []) := own_below (own_empty (by go_size) (by simp)) hb; obtain ⟨hc, hf, hC, hF, hz, hk, l0, l1⟩ := bk2 (w := w) (by go_grown) (by go_size) hb; clear hb))
    go_loopw [3, 4] (fun v i wr => ∃ k : Nat, k ≤ nr ∧ i = .int .i64 (b + k) ∧ wr.ownsRow (w.heap.size + 1) 25 2 v (k * nc) (cellsX a b nc (k * nc)) ∧ wr.cell? ⟨w.heap.size, 0, none⟩ = some (.int .i64 a) ∧ wr.cell? ⟨w.heap.size, 2, none⟩ = some (.int .i64 c) ∧ wr.cell? ⟨w.heap.size, 3, none⟩ = some (.int .i64 d) ∧ Below w.heap.size w wr ∧ w.heap.size + 1 ≤ wr.heap.size)
      (fun _ i _ => (d + 1 - intOf i).toNat)
    case atStart => exact ⟨0, Nat.zero_le _, by simp, by rw [Nat.zero_mul]; exact HV.out, by simp [*], by simp [*], by simp [*], by go_grown, by omega⟩
    case round =>
      obtain ⟨k, hk, rfl, hown, c0, c2, c3, hbel, hsz⟩ := hrel
      have HW : Hid (wr.ownsRow (w.heap.size + 1) 25 2 u3 (k * nc) (cellsX a b nc (k * nc))) := hown
      clear hown
      by_cases hlt : k < nr
      · have h1 : b + (k : Int) ≤ d := by have := HR.out; omega
        go_wp2_with fail
        go_loopw [3, 5] (fun v' i' wi => ∃ j : Nat, j ≤ nc ∧ i' = .int .i64 (a + j) ∧ wi.ownsRow (w.heap.size + 1) 25 2 v' (k * nc + j) (cellsX a b nc (k * nc + j)) ∧ wi.cell? ⟨w.heap.size, 0, none⟩ = some (.int .i64 a) ∧ wi.cell? ⟨w.heap.size, 2, none⟩ = some (.int .i64 c) ∧ wi.cell? ⟨w.heap.size, 3, none⟩ = some (.int .i64 d) ∧ Below w.heap.size w wi ∧ w.heap.size + 1 ≤ wi.heap.size)
          (fun _ i _ => (c + 1 - intOf i).toNat)
        case atStart => exact ⟨0, Nat.zero_le _, by simp, HW.out, c0, c2, c3, hbel, hsz⟩
        case round =>
          clear HW c0 c2 c3 hbel hsz
          obtain ⟨j, hj, rfl, hown, c0, c2, c3, hbel, hsz⟩ := hrel
          have HW : Hid (wr.ownsRow (w.heap.size + 1) 25 2 u3 (k * nc + j) (cellsX a b nc (k * nc + j))) := hown
          clear hown
          by_cases hlt' : j < nc
          · have h2 : a + (j : Int) ≤ c := by have := HC.out; omega
            have HM : Hid (k * nc + j ≤ 5200) := by
              have h3 := HN.out
              have h4 : k * nc ≤ 99 * 52 := Nat.mul_le_mul (by omega) h3.1
              exact (by omega : k * nc + j ≤ 5200)
            go_wp2_with (first
              | (at_builtin; refine wpList_append_own _ rfl _ _ 30 rfl (w.heap.size + 1) 25 i0 (.agg #[.int .i64 0, .int .i64 0]) 2 16 Try.underlying30 hi hz0 hz1 hz2 rfl (by decide) _ _ _ rfl (HW.out.alloc _) ⟨wr.heap.size, 0, none⟩ 1 1 [.int .i64 (a + j), .int .i64 (b + k)] rfl rfl ?c1 ?c2 ?c3 ?c4 ?c5 ?_)
              | go_in)
            case c1 =>
              intro q u hq
              match q, hq with
              | 0, hq => simp at hq; subst hq; simp [Addr.add]
              | 1, hq => simp at hq; subst hq; simp [Addr.add]
            case c2 => intro u hu; simp at hu; rcases hu with rfl | rfl <;> rfl
            case c3 => have := HM.out; unfold maxLen; omega
            case c4 => have := HM.out; omega
            case c5 => simp; omega
            intro v' w1 hown' hgrow _
            obtain ⟨R1, R2, R3⟩ := app_step HW.out hbel hsz hgrow
            have HW' : Hid (w1.ownsRow (w.heap.size + 1) 25 2 v' (k * nc + j + 1) (cellsX a b nc (k * nc + j + 1))) := by show World.ownsRow _ _ _ _ _ _ _; rw [cellsX_at hlt']; exact hown'
            have d0 := R1 _ _ c0
            have d2 := R1 _ _ c2
            have d3 := R1 _ _ c3
            clear hown' hgrow R1 c0 c2 c3 HW hbel hsz
            go_wp2_with fail
            go_roundw
            case rel => exact ⟨j + 1, by omega, by go_num, HW'.out, d0, d2, d3, R2, R3⟩
            case measure => simp [intOf]; omega
          · have h2 : ¬ a + (j : Int) ≤ c := by have := HC.out; omega
            obtain rfl : j = nc := by omega
            go_wp2_with fail
            go_roundw
            case rel => exact ⟨k + 1, by omega, by go_num, by rw [Nat.succ_mul]; exact HW.out, c0, c2, c3, hbel, hsz⟩
            case measure => simp [intOf]; omega
      · have h1 : ¬ b + (k : Int) ≤ d := by have := HR.out; omega
        obtain rfl : k = nr := by omega
        go_wp2_with fail
        go_ret
        have e : manyOf a b c d = k * nc := by rw [manyOf, HO.out, HC2.out, HR2.out, Nat.mul_comm]; rfl
        exact ⟨_, rfl, by rw [HC2.out, e]; exact own_mono HW.out (by omega), hbel⟩

end Go.Proofs.Ytagmmlipaihilaa
