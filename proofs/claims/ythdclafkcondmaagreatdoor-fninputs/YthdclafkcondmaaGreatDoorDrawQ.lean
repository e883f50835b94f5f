import Derived.Test.YthdclafkcondmaaGreatDoorDrawP
set_option linter.unusedVariables false
namespace Go.Proofs.YthdclafkcondmaaGreatDoor
open Go.RowKit
set_option maxHeartbeats 2000000 in
theorem rd_ref (r : Nat) (A : Option Addr) (len cap : Nat) (w : World) (hr : Rd w r A len cap) : Calls Tryz.prog 92 #[.pointer (some ⟨r, 0, none⟩)] w fun e w' =>
    ∃ x y, e = .returned (.agg #[.int .i64 x, .int .i64 y]) ∧ 1 ≤ x ∧ x ≤ 3 ∧ 1 ≤ y ∧ y ≤ 4 ∧ Rd w' r A len cap ∧ Upd r w w' := by
  have HH : Hid (Rd w r A len cap) := hr
  have hne := ne_of_lt' hr.lt
  have HL : Hid (r ≤ w.heap.size) := Nat.le_of_lt hr.lt
  clear hr
  go_enter Tryz.func92, Tryz.ntmps92
  go_wp2_with fail
  refine (rd_below r A len cap 3 _ (HH.out.below (by go_grown)) (by omega) (by omega)).mono ?_
  rintro e w1 ⟨x, rfl, x0, x1, hr, hu⟩
  have HR1 : Hid (Rd w1 r A len cap) := hr
  have HU1 : Hid (Upd r w w1) := (Upd.of_below HL.out (by go_grown)).trans hu
  have hl1 : w.heap.size < w1.heap.size := Nat.lt_of_lt_of_le (by go_size) hu.2.2.1
  obtain ⟨uc1, uf1, uz1, ub1⟩ := hu
  clear hr ub1
  go_wp2_with fail
  refine (rd_below r A len cap 4 _ HR1.out (by omega) (by omega)).mono ?_
  rintro e w2 ⟨y, rfl, y0, y1, hr, hu⟩
  have HR2 : Hid (Rd w2 r A len cap) := hr
  have HU2 : Hid (Upd r w w2) := HU1.out.trans hu
  have hl2 : w.heap.size < w2.heap.size := Nat.lt_of_lt_of_le (by go_size) hu.2.2.1
  obtain ⟨uc2, uf2, uz2, ub2⟩ := hu
  clear hr ub2
  go_wp2_with fail
  refine bodyPost_ret (v := .agg #[.int .i64 (1 + x), .int .i64 (1 + y)]) ?_ rfl ⟨_, _, rfl, by omega, by omega, by omega, by omega, HH.out.carry HR2.out HU2.out (by go_grown)⟩
  simp (maxDischargeDepth := 9) [results, Tryz.results92, go_sem, *]
/-- Four cells of the call's own. -/
def C4 (W : World) (b : Nat) (v0 v1 v2 v3 : Value) : Prop := b < W.heap.size ∧ (W.cell? ⟨b, 0, none⟩ = some v0 ∧ W.cell? ⟨b, 1, none⟩ = some v1 ∧ W.cell? ⟨b, 2, none⟩ = some v2 ∧ W.cell? ⟨b, 3, none⟩ = some v3) ∧
  (W.frozen? ⟨b, 0, none⟩ = false ∧ W.frozen? ⟨b, 1, none⟩ = false ∧ W.frozen? ⟨b, 2, none⟩ = false ∧ W.frozen? ⟨b, 3, none⟩ = false)
theorem C4.upd {W w1 : World} {r b : Nat} {v0 v1 v2 v3 : Value} (h : C4 W b v0 v1 v2 v3) (hu : Upd r W w1) (hn : b ≠ r) : C4 w1 b v0 v1 v2 v3 := by
  obtain ⟨hl, ⟨c0, c1, c2, c3⟩, f0, f1, f2, f3⟩ := h
  exact ⟨Nat.lt_of_lt_of_le hl hu.2.2.1, ⟨(hu.1 b 0 hl hn).trans c0, (hu.1 b 1 hl hn).trans c1, (hu.1 b 2 hl hn).trans c2, (hu.1 b 3 hl hn).trans c3⟩, (hu.2.1 b 0 hl hn).trans f0, (hu.2.1 b 1 hl hn).trans f1, (hu.2.1 b 2 hl hn).trans f2, (hu.2.1 b 3 hl hn).trans f3⟩
theorem C4.below {W w1 : World} {b : Nat} {v0 v1 v2 v3 : Value} (h : C4 W b v0 v1 v2 v3) (hb : Below W.heap.size W w1) : C4 w1 b v0 v1 v2 v3 := by
  obtain ⟨hl, ⟨c0, c1, c2, c3⟩, f0, f1, f2, f3⟩ := h
  exact ⟨Nat.lt_of_lt_of_le hl hb.size, ⟨(hb.cell (p := ⟨b, 0, none⟩) hl).trans c0, (hb.cell (p := ⟨b, 1, none⟩) hl).trans c1, (hb.cell (p := ⟨b, 2, none⟩) hl).trans c2, (hb.cell (p := ⟨b, 3, none⟩) hl).trans c3⟩, (hb.frozen (p := ⟨b, 0, none⟩) hl).trans f0, (hb.frozen (p := ⟨b, 1, none⟩) hl).trans f1, (hb.frozen (p := ⟨b, 2, none⟩) hl).trans f2, (hb.frozen (p := ⟨b, 3, none⟩) hl).trans f3⟩
theorem C4.new (W : World) (v0 v1 v2 v3 : Value) (t : TypeId) : C4 (W.alloc (.cells #[v0, v1, v2, v3] t)) W.heap.size v0 v1 v2 v3 := by
  refine ⟨by simp, ⟨by simp, by simp, by simp, by simp⟩, by simp, by simp, by simp, by simp⟩
end Go.Proofs.YthdclafkcondmaaGreatDoor
