import Derived.Test.YtjcicndioddcmaaDoorDrawT
namespace Go.Proofs.YtjcicndioddcmaaDoor
open Go.RowKit
set_option linter.unusedVariables false

/-- A place's text: of one that is not right none. -/
def plT (a b : Int) (x y : Bool) : ByteArray := if refOkB a b then placeT a b.toNat x y else ⟨#[]⟩
theorem ref_row {a b : Int} (h : refOkB a b = true) : (1 ≤ a ∧ a ≤ 52) ∧ ∃ i : Nat, b = (i : Int) ∧ 1 ≤ i ∧ i ≤ 99 := by
  unfold refOkB at h
  have h' := of_decide_eq_true h
  exact ⟨by omega, b.toNat, by omega, by omega, by omega⟩
theorem plT_size (a b : Int) (x y : Bool) : (plT a b x y).size ≤ 6 := by
  unfold plT
  split
  · unfold placeT
    rw [ByteArray.size_append, ByteArray.size_append, ByteArray.size_append]
    have := fx_size x
    have := fx_size y
    have := colT_size a
    have := decS_size b.toNat
    omega
  · exact Nat.zero_le _
theorem spec_PlaceText_any (a b : Int) (x y : Bool) (w : World) : Calls Tryd.prog 18 #[.agg #[.int .i64 a, .int .i64 b, .bool x, .bool y]] w fun e w' =>
    e = .returned (.string (plT a b x y)) ∧ Below w.heap.size w w' := by
  cases h : refOkB a b
  · unfold plT
    rw [h]
    exact spec_PlaceText_no a b x y w h
  · obtain ⟨_, i, rfl, h1, h2⟩ := ref_row h
    unfold plT
    rw [h]
    exact spec_PlaceText_ok a i x y w (by omega) h
theorem impl_PlaceText_any (a b : Int) (x y : Bool) (w : World) : Calls Tryd.prog 16 #[.agg #[.int .i64 a, .int .i64 b, .bool x, .bool y]] w fun e w' =>
    e = .returned (.string (plT a b x y)) ∧ Below w.heap.size w w' := by
  cases h : refOkB a b
  · unfold plT
    rw [h]
    exact impl_PlaceText_no a b x y w h
  · obtain ⟨_, i, rfl, h1, h2⟩ := ref_row h
    unfold plT
    rw [h]
    exact impl_PlaceText_ok a i x y w (by omega) h

set_option maxRecDepth 100000 in
set_option maxHeartbeats 4000000 in
theorem draw_readPlace (A : Option Addr) (len cap : Nat) (w : World) (h : Cd w A len) : Calls Tryd.prog 20 #[.slice A len cap] w fun e w' =>
    ∃ s : ByteArray, e = .returned (.string s) ∧ s.size ≤ 8 ∧ Below w.heap.size w w' := by
  have HH : Hid (Cd w A len) := h
  clear h
  go_enter Tryd.func20, Tryd.ntmps20
  go_wp2_with fail
  refine (spec_l1Open A len cap _).mono ?_
  rintro e w1 ⟨rfl, rfl⟩
  go_wp2_with fail
  refine (rd_place w.heap.size A len cap _ (HH.out.open (by go_grown) rfl)).mono ?_
  rintro e w2 ⟨a, b, x, y, rfl, hr, hu⟩
  have HR2 : Hid (Rd w2 w.heap.size A len cap) := hr
  have HU2 : Hid (Below w.heap.size w w2) := Below.trans (by go_grown) hu.2.2.2
  clear hr hu
  go_wp2_with fail
  refine (spec_PlaceText_any a b x y _).mono ?_
  rintro e w3 ⟨rfl, hb⟩
  have HR3 : Hid (Rd w3 w.heap.size A len cap) := HR2.out.below hb
  have HU3 : Hid (Below w.heap.size w w3) := bchain HU2.out hb
  have HS : Hid ((plT a b x y).size ≤ 6) := plT_size a b x y
  obtain ⟨s, HSS⟩ : ∃ s, Hid (plT a b x y = s) := ⟨_, rfl⟩
  rw [HSS.out] at HS ⊢
  clear hb HR2 HU2
  go_wp2_with fail
  refine (rd_once w.heap.size A len cap 4 _ HR3.out (by omega) (by omega)).mono ?_
  rintro e w4 ⟨p, rfl, hr, hu⟩
  have HR4 : Hid (Rd w4 w.heap.size A len cap) := hr
  have HU4 : Hid (Below w.heap.size w w4) := HU3.out.trans hu.2.2.2
  clear hr hu HR3 HU3
  cases p
  rotate_left
  · go_wp2_with fail
    refine (rd_hurt w.heap.size A len cap s _ HR4.out (by have := HS.out; omega)).mono ?_
    rintro e w5 ⟨t, rfl, ht, hr, hu⟩
    have HU5 : Hid (Below w.heap.size w w5) := HU4.out.trans hu.2.2.2
    have HT : Hid (t.size ≤ 8) := (by have := HS.out; omega : t.size ≤ 8)
    clear hr hu
    go_wp2_with fail
    go_ret
    exact ⟨t, rfl, HT.out, HU5.out⟩
  · go_wp2_with fail
    refine (rd_once w.heap.size A len cap 8 _ HR4.out (by omega) (by omega)).mono ?_
    rintro e w5 ⟨q, rfl, hr, hu⟩
    have HR5 : Hid (Rd w5 w.heap.size A len cap) := hr
    have HU5 : Hid (Below w.heap.size w w5) := HU4.out.trans hu.2.2.2
    clear hr hu HR4 HU4
    cases q
    · go_wp2_with fail
      go_ret
      exact ⟨s, rfl, Nat.le_trans HS.out (by decide), HU5.out⟩
    · go_wp2_with fail
      refine (rd_below w.heap.size A len cap 9 _ (HR5.out.below (by go_grown)) (by omega) (by omega)).mono ?_
      rintro e w6 ⟨v, rfl, v0, v1, hr, hu⟩
      have hl5 := HR5.out.lt
      have HU6 : Hid (Below w.heap.size w w6) := HU5.out.trans (Below.trans (by go_grown) hu.2.2.2)
      have nr : ¬ w5.heap.size = w.heap.size := by omega
      obtain ⟨uc, uf, uz, ub⟩ := hu
      clear hr ub
      have hv : v = 0 ∨ v = 1 ∨ v = 2 ∨ v = 3 ∨ v = 4 ∨ v = 5 ∨ v = 6 ∨ v = 7 ∨ v = 8 := by omega
      rcases hv with rfl | rfl | rfl | rfl | rfl | rfl | rfl | rfl | rfl
      all_goals
        go_wp2_with fail
        go_ret
        exact ⟨_, rfl, by decide, HU6.out⟩
end Go.Proofs.YtjcicndioddcmaaDoor
