import Derived.Test.YthdclafkcondmaaGreatDoorDrA
set_option linter.unusedSimpArgs false
set_option linter.unusedVariables false
namespace Go.Proofs.YthdclafkcondmaaGreatDoor
open Go.RowKit
/-- How long a drawn formula's text may be. -/
def fB : Nat → Nat
  | 0 => 16
  | d + 1 => 3 * fB d + 21
def FtC (d : Nat) : Prop := ∀ (r : Nat) (A : Option Addr) (len cap : Nat) (w : World), Rd w r A len cap → Calls Tryz.prog 43 #[.pointer (some ⟨r, 0, none⟩), .int .i64 d] w fun e w' =>
    ∃ t : ByteArray, e = .returned (.string t) ∧ t.size ≤ fB d ∧ Rd w' r A len cap ∧ Upd r w w'
set_option maxRecDepth 100000 in
set_option maxHeartbeats 4000000 in
theorem ft_nought : FtC 0 := by
  intro r A len cap w hr
  have FB : ∀ {t : ByteArray}, t.size ≤ 6 → t.size ≤ fB 0 := fun h => Nat.le_trans h (by decide)
  have FC : ∀ {t : ByteArray}, t.size ≤ 16 → t.size ≤ fB 0 := fun h => Nat.le_trans h (by decide)
  have HR1 : Hid (Rd w r A len cap) := hr
  have HU1 : Hid (Upd r w w) := Upd.draws r w 0
  clear hr
  go_enter Tryz.func43, Tryz.ntmps43
  go_wp2_with fail
  refine (rd_below r A len cap 7 _ HR1.out (by omega) (by omega)).mono ?_
  rintro e w2 ⟨v, rfl, v0, v1, hr, hu⟩
  have HR2 : Hid (Rd w2 r A len cap) := hr
  have HU2 : Hid (Upd r w w2) := HU1.out.trans hu
  clear hr hu HR1 HU1
  have hv : v = 0 ∨ v = 1 ∨ v = 2 ∨ v = 3 ∨ v = 4 ∨ v = 5 ∨ v = 6 := by omega
  clear v0 v1
  rcases hv with rfl | rfl | rfl | rfl | rfl | rfl | rfl
  iterate 3
    (rotate_left 0
     go_wp2_with fail
     refine (rd_ref r A len cap _ HR2.out).mono ?_
     rintro e w3 ⟨x, y, rfl, x0, x1, y0, y1, hr, hu⟩
     have HR3 : Hid (Rd w3 r A len cap) := hr
     have HU3 : Hid (Upd r w w3) := HU2.out.trans hu
     clear hr hu
     go_wp2_with fail
     refine (rd_once r A len cap 5 _ HR3.out (by omega) (by omega)).mono ?_
     rintro e w4 ⟨p, rfl, hr, hu⟩
     have HR4 : Hid (Rd w4 r A len cap) := hr
     have HU4 : Hid (Upd r w w4) := HU3.out.trans hu
     clear hr hu
     go_wp2_with fail
     refine (rd_once r A len cap 5 _ HR4.out (by omega) (by omega)).mono ?_
     rintro e w5 ⟨q, rfl, hr, hu⟩
     have HR5 : Hid (Rd w5 r A len cap) := hr
     have HU5 : Hid (Upd r w w5) := HU4.out.trans hu
     clear hr hu
     go_wp2_with fail
     refine (spec_PlaceText_sz _ _ _ _ _).mono ?_
     rintro e w6 ⟨t, rfl, ht, hb⟩
     have HT : Hid (t.size ≤ 6) := ht
     have HR6 : Hid (Rd w6 r A len cap) := HR5.out.below hb
     have HU6 : Hid (Upd r w w6) := HU5.out.trans (Upd.of_below (Nat.le_of_lt HR5.out.lt) hb)
     clear hb ht
     go_wp2_with fail
     go_ret
     exact ⟨t, rfl, FB HT.out, HR6.out, HU6.out⟩)
  · go_wp2_with fail
    refine (rd_below r A len cap 6 _ (HR2.out.below (by go_grown)) (by omega) (by omega)).mono ?_
    rintro e w3 ⟨v, rfl, v0, v1, hr, hu⟩
    have hl2 := HR2.out.lt
    have HR3 : Hid (Rd w3 r A len cap) := hr
    have HU3 : Hid (Upd r w w3) := HU2.out.trans ((Upd.of_below (Nat.le_of_lt hl2) (by go_grown)).trans hu)
    have nr : ¬ w2.heap.size = r := by omega
    obtain ⟨uc, uf, uz, ub⟩ := hu
    clear hr ub
    have hv : v = 0 ∨ v = 1 ∨ v = 2 ∨ v = 3 ∨ v = 4 ∨ v = 5 := by omega
    rcases hv with rfl | rfl | rfl | rfl | rfl | rfl
    all_goals
      go_wp2_with fail
      go_ret
      exact ⟨_, rfl, FB (by decide), HR3.out, HU3.out⟩
  all_goals
    go_wp2_with fail
    refine (rd_below r A len cap 12 _ HR2.out (by omega) (by omega)).mono ?_
    rintro e w3 ⟨v, rfl, v0, v1, hr, hu⟩
    have HR3 : Hid (Rd w3 r A len cap) := hr
    have HU3 : Hid (Upd r w w3) := HU2.out.trans hu
    clear hr hu
    go_wp2_with fail
    refine (spec_l1DecV v _ (decide_eq_true (by omega))).mono ?_
    rintro e w4 ⟨rfl, hb⟩
    have HT : Hid ((itB v).size ≤ 16) := (by
      obtain ⟨m, rfl⟩ : ∃ m : Nat, v = (m : Int) := ⟨v.toNat, by omega⟩
      exact itB_size (by omega))
    obtain ⟨t, HTT⟩ : ∃ t, Hid (itB v = t) := ⟨_, rfl⟩
    rw [HTT.out] at HT ⊢
    have HR4 : Hid (Rd w4 r A len cap) := HR3.out.below hb
    have HU4 : Hid (Upd r w w4) := HU3.out.trans (Upd.of_below (Nat.le_of_lt HR3.out.lt) hb)
    clear hb
    go_wp2_with fail
    go_ret
    exact ⟨t, rfl, FC HT.out, HR4.out, HU4.out⟩
end Go.Proofs.YthdclafkcondmaaGreatDoor
