import Derived.Test.YthdclafkcondmaaGreatDoorDrB
set_option linter.unusedSimpArgs false
set_option linter.unusedVariables false
namespace Go.Proofs.YthdclafkcondmaaGreatDoor
open Go.RowKit
/-- A formula's drawn text of so many steps is of at most B bytes. -/
def FtX (n : Int) (B : Nat) : Prop := ∀ (r : Nat) (A : Option Addr) (len cap : Nat) (w : World), Rd w r A len cap → Calls Tryz.prog 43 #[.pointer (some ⟨r, 0, none⟩), .int .i64 n] w fun e w' =>
    ∃ t : ByteArray, e = .returned (.string t) ∧ t.size ≤ B ∧ Rd w' r A len cap ∧ Upd r w w'
theorem add_factX {x y : ByteArray} {B : Nat} (h : x.size + y.size ≤ B) (hB : B ≤ 1000000) : ∀ W, (Op.stringOp .add x y).run Tryz.prog W = .ok (.string (x ++ y)) W := add_run x y (by omega)
set_option maxRecDepth 100000 in
set_option maxHeartbeats 4000000 in
theorem rd_input (H1 : FtX 1 69) (H2 : FtX 2 228) (r : Nat) (A : Option Addr) (len cap : Nat) (w : World) (hr : Rd w r A len cap) : Calls Tryz.prog 60 #[.pointer (some ⟨r, 0, none⟩)] w fun e w' =>
    ∃ t : ByteArray, e = .returned (.string t) ∧ t.size ≤ 300 ∧ Rd w' r A len cap ∧ Upd r w w' := by
  have HR0 : Hid (Rd w r A len cap) := hr
  clear hr
  go_enter Tryz.func60, Tryz.ntmps60
  go_wp2_with fail
  refine (rd_below r A len cap 8 _ HR0.out (by omega) (by omega)).mono ?_
  rintro e w2 ⟨v, rfl, v0, v1, hr, hu⟩
  have HR2 : Hid (Rd w2 r A len cap) := hr
  have HU2 : Hid (Upd r w w2) := hu
  clear hr hu HR0
  have hv : v = 0 ∨ v = 1 ∨ v = 2 ∨ v = 7 ∨ v = 3 ∨ v = 4 ∨ v = 5 ∨ v = 6 := by omega
  clear v0 v1
  rcases hv with rfl | rfl | rfl | rfl | rfl | rfl | rfl | rfl
  iterate 3
    (rotate_left 0
     go_wp2_with fail
     refine (H2 r A len cap _ HR2.out).mono ?_
     rintro e w3 ⟨t, rfl, ht, hr, hu⟩
     have HR3 : Hid (Rd w3 r A len cap) := hr
     have HU3 : Hid (Upd r w w3) := HU2.out.trans hu
     clear hr hu
     have a1 := add_factX (x := ⟨#[61]⟩) (y := t) (B := 300) (by show 1 + t.size ≤ _; omega) (by omega)
     go_wp2_with fail
     go_ret
     exact ⟨_, rfl, by rw [ByteArray.size_append]; show 1 + t.size ≤ _; omega, HR3.out, HU3.out⟩)
  · go_wp2_with fail
    refine (H1 r A len cap _ HR2.out).mono ?_
    rintro e w3 ⟨t, rfl, ht, hr, hu⟩
    have HR3 : Hid (Rd w3 r A len cap) := hr
    have HU3 : Hid (Upd r w w3) := HU2.out.trans hu
    clear hr hu
    have a1 := add_factX (x := ⟨#[61]⟩) (y := t) (B := 300) (by show 1 + t.size ≤ _; omega) (by omega)
    go_wp2_with fail
    go_ret
    exact ⟨_, rfl, by rw [ByteArray.size_append]; show 1 + t.size ≤ _; omega, HR3.out, HU3.out⟩
  iterate 2
    (rotate_left 0
     go_wp2_with fail
     refine (rd_below r A len cap 20 _ HR2.out (by omega) (by omega)).mono ?_
     rintro e w3 ⟨v, rfl, v0, v1, hr, hu⟩
     have HR3 : Hid (Rd w3 r A len cap) := hr
     have HU3 : Hid (Upd r w w3) := HU2.out.trans hu
     clear hr hu
     go_wp2_with fail
     refine (spec_l1DecV v _ (decide_eq_true (by omega))).mono ?_
     rintro e w4 ⟨rfl, hb⟩
     have HT : Hid ((itB v).size ≤ 16) := (by
       obtain ⟨m, rfl⟩ : ∃ m : Nat, v = (m : Int) := ⟨v.toNat, by omega⟩
       exact itB_size (by omega))
     obtain ⟨t, HTT⟩ : ∃ t, Hid (itB v = t) := ⟨_, rfl⟩
     rw [HTT.out] at HT ⊢
     have HR4 : Hid (Rd w4 r A len cap) := HR3.out.below hb
     have HU4 : Hid (Upd r w w4) := HU3.out.trans (Upd.of_below (Nat.le_of_lt HR3.out.lt) hb)
     clear hb
     go_wp2_with fail
     go_ret
     exact ⟨t, rfl, Nat.le_trans HT.out (by decide), HR4.out, HU4.out⟩)
  · go_wp2_with fail
    refine (rd_below r A len cap 8 _ (HR2.out.below (by go_grown)) (by omega) (by omega)).mono ?_
    rintro e w3 ⟨v, rfl, v0, v1, hr, hu⟩
    have hl2 := HR2.out.lt
    have HR3 : Hid (Rd w3 r A len cap) := hr
    have HU3 : Hid (Upd r w w3) := HU2.out.trans ((Upd.of_below (Nat.le_of_lt hl2) (by go_grown)).trans hu)
    have nr : ¬ w2.heap.size = r := by omega
    obtain ⟨uc, uf, uz, ub⟩ := hu
    clear hr ub
    have hv : v = 0 ∨ v = 1 ∨ v = 2 ∨ v = 3 ∨ v = 4 ∨ v = 5 ∨ v = 6 ∨ v = 7 := by omega
    rcases hv with rfl | rfl | rfl | rfl | rfl | rfl | rfl | rfl
    all_goals
      go_wp2_with fail
      go_ret
      exact ⟨_, rfl, by decide, HR3.out, HU3.out⟩
  · go_wp2_with fail
    go_ret
    exact ⟨_, rfl, by decide, HR2.out, HU2.out⟩
set_option maxHeartbeats 4000000 in
theorem draw_inputOf (H1 : FtX 1 69) (H2 : FtX 2 228) (A : Option Addr) (len cap : Nat) (w : World) (h : Cd w A len) : Calls Tryz.prog 23 #[.slice A len cap] w fun e w' =>
    ∃ s : ByteArray, e = .returned (.string s) ∧ s.size ≤ 302 ∧ Below w.heap.size w w' := by
  have HH : Hid (Cd w A len) := h
  clear h
  go_enter Tryz.func23, Tryz.ntmps23
  go_wp2_with fail
  refine (spec_l1Open A len cap _).mono ?_
  rintro e w1 ⟨rfl, rfl⟩
  go_wp2_with fail
  refine (rd_input H1 H2 w.heap.size A len cap _ (HH.out.open (by go_grown) rfl)).mono ?_
  rintro e w2 ⟨s, rfl, hs, hr, hu⟩
  have HR2 : Hid (Rd w2 w.heap.size A len cap) := hr
  have HU2 : Hid (Below w.heap.size w w2) := Below.trans (by go_grown) hu.2.2.2
  clear hr hu
  go_wp2_with fail
  refine (rd_once w.heap.size A len cap 8 _ HR2.out (by omega) (by omega)).mono ?_
  rintro e w4 ⟨p, rfl, hr, hu⟩
  have HR4 : Hid (Rd w4 w.heap.size A len cap) := hr
  have HU4 : Hid (Below w.heap.size w w4) := HU2.out.trans hu.2.2.2
  clear hr hu HR2 HU2
  cases p
  · go_wp2_with fail
    go_ret
    exact ⟨s, rfl, by omega, HU4.out⟩
  · go_wp2_with fail
    refine (rd_hurt w.heap.size A len cap s _ HR4.out (by omega)).mono ?_
    rintro e w5 ⟨t, rfl, ht, hr, hu⟩
    have HU5 : Hid (Below w.heap.size w w5) := HU4.out.trans hu.2.2.2
    clear hr hu
    go_wp2_with fail
    go_ret
    exact ⟨t, rfl, by omega, HU5.out⟩
end Go.Proofs.YthdclafkcondmaaGreatDoor
