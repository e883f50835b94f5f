import Derived.Test.YtjcicndioddcmaaDoorDrawP
namespace Go.Proofs.YtjcicndioddcmaaDoor
open Go.RowKit
set_option linter.unusedVariables false

set_option maxHeartbeats 2000000 in
theorem rd_ref (r : Nat) (A : Option Addr) (len cap : Nat) (w : World) (hr : Rd w r A len cap) : Calls Tryd.prog 59 #[.pointer (some ⟨r, 0, none⟩)] w fun e w' =>
    ∃ x y, e = .returned (.agg #[.int .i64 x, .int .i64 y]) ∧ 1 ≤ x ∧ x ≤ 3 ∧ 1 ≤ y ∧ y ≤ 4 ∧ Rd w' r A len cap ∧ Upd r w w' := by
  have HH : Hid (Rd w r A len cap) := hr
  have hne := ne_of_lt' hr.lt
  have HL : Hid (r ≤ w.heap.size) := Nat.le_of_lt hr.lt
  clear hr
  go_enter Tryd.func59, Tryd.ntmps59
  go_wp2_with fail
  refine (rd_below r A len cap 3 _ (HH.out.below (by go_grown)) (by omega) (by omega)).mono ?_
  rintro e w1 ⟨x, rfl, x0, x1, hr, hu⟩
  have HR1 : Hid (Rd w1 r A len cap) := hr
  have HU1 : Hid (Upd r w w1) := (Upd.of_below HL.out (by go_grown)).trans hu
  have hl1 : w.heap.size < w1.heap.size := Nat.lt_of_lt_of_le (by go_size) hu.2.2.1
  obtain ⟨uc1, uf1, uz1, ub1⟩ := hu
  clear hr ub1
  go_wp2_with fail
  refine (rd_below r A len cap 4 _ HR1.out (by omega) (by omega)).mono ?_
  rintro e w2 ⟨y, rfl, y0, y1, hr, hu⟩
  have HR2 : Hid (Rd w2 r A len cap) := hr
  have HU2 : Hid (Upd r w w2) := HU1.out.trans hu
  have hl2 : w.heap.size < w2.heap.size := Nat.lt_of_lt_of_le (by go_size) hu.2.2.1
  obtain ⟨uc2, uf2, uz2, ub2⟩ := hu
  clear hr ub2
  go_wp2_with fail
  refine bodyPost_ret (v := .agg #[.int .i64 (1 + x), .int .i64 (1 + y)]) ?_ rfl ⟨_, _, rfl, by omega, by omega, by omega, by omega, HH.out.carry HR2.out HU2.out (by go_grown)⟩
  simp (maxDischargeDepth := 9) [results, Tryd.results59, go_sem, *]

set_option maxHeartbeats 1000000 in
theorem draw_colText (A : Option Addr) (len cap : Nat) (w : World) (h : Cd w A len) : Calls Tryd.prog 9 #[.slice A len cap] w fun e w' =>
    ∃ v, e = .returned (.int .i64 v) ∧ Below w.heap.size w w' := by
  have HH : Hid (Cd w A len) := h
  clear h
  go_enter Tryd.func9, Tryd.ntmps9
  go_wp2_with fail
  refine (spec_l1Open A len cap _).mono ?_
  rintro e w1 ⟨rfl, rfl⟩
  go_wp2_with fail
  refine (rd_off w.heap.size A len cap 1 52 _ (HH.out.open (by go_grown) (by simp)) (by omega) (by omega) (by omega)).mono ?_
  rintro e w2 ⟨v, rfl, hr, hu⟩
  have HU : Hid (Below w.heap.size w w2) := Below.trans (by go_grown) hu.2.2.2
  clear hr hu
  go_wp2_with fail
  go_ret
  exact ⟨_, rfl, HU.out⟩

set_option maxHeartbeats 2000000 in
theorem draw_readCol (A : Option Addr) (len cap : Nat) (w : World) (h : Cd w A len) : Calls Tryd.prog 11 #[.slice A len cap] w fun e w' =>
    ∃ s : ByteArray, e = .returned (.string s) ∧ s.size ≤ 3 ∧ Below w.heap.size w w' := by
  have HH : Hid (Cd w A len) := h
  clear h
  go_enter Tryd.func11, Tryd.ntmps11
  go_wp2_with fail
  refine (spec_l1Open A len cap _).mono ?_
  rintro e w1 ⟨rfl, rfl⟩
  go_wp2_with fail
  refine (rd_below w.heap.size A len cap 10 _ ((HH.out.open (by go_grown) rfl).below (by go_grown)) (by omega) (by omega)).mono ?_
  rintro e w2 ⟨v, rfl, v0, v1, hr, hu⟩
  have HU : Hid (Below w.heap.size w w2) := Below.trans (by go_grown) hu.2.2.2
  obtain ⟨uc, uf, uz, ub⟩ := hu
  clear hr ub
  have n1 : ¬ w.heap.size + 1 = w.heap.size := by omega
  have hv : v = 0 ∨ v = 1 ∨ v = 2 ∨ v = 3 ∨ v = 4 ∨ v = 5 ∨ v = 6 ∨ v = 7 ∨ v = 8 ∨ v = 9 := by omega
  rcases hv with rfl | rfl | rfl | rfl | rfl | rfl | rfl | rfl | rfl | rfl
  all_goals
    go_wp2_with fail
    go_ret
    exact ⟨_, rfl, by decide, HU.out⟩

/-- Four cells of the call's own. -/
def C4 (W : World) (b : Nat) (v0 v1 v2 v3 : Value) : Prop := b < W.heap.size ∧ (W.cell? ⟨b, 0, none⟩ = some v0 ∧ W.cell? ⟨b, 1, none⟩ = some v1 ∧ W.cell? ⟨b, 2, none⟩ = some v2 ∧ W.cell? ⟨b, 3, none⟩ = some v3) ∧
  (W.frozen? ⟨b, 0, none⟩ = false ∧ W.frozen? ⟨b, 1, none⟩ = false ∧ W.frozen? ⟨b, 2, none⟩ = false ∧ W.frozen? ⟨b, 3, none⟩ = false)
theorem C4.upd {W w1 : World} {r b : Nat} {v0 v1 v2 v3 : Value} (h : C4 W b v0 v1 v2 v3) (hu : Upd r W w1) (hn : b ≠ r) : C4 w1 b v0 v1 v2 v3 := by
  obtain ⟨hl, ⟨c0, c1, c2, c3⟩, f0, f1, f2, f3⟩ := h
  exact ⟨Nat.lt_of_lt_of_le hl hu.2.2.1, ⟨(hu.1 b 0 hl hn).trans c0, (hu.1 b 1 hl hn).trans c1, (hu.1 b 2 hl hn).trans c2, (hu.1 b 3 hl hn).trans c3⟩, (hu.2.1 b 0 hl hn).trans f0, (hu.2.1 b 1 hl hn).trans f1, (hu.2.1 b 2 hl hn).trans f2, (hu.2.1 b 3 hl hn).trans f3⟩
theorem C4.below {W w1 : World} {b : Nat} {v0 v1 v2 v3 : Value} (h : C4 W b v0 v1 v2 v3) (hb : Below W.heap.size W w1) : C4 w1 b v0 v1 v2 v3 := by
  obtain ⟨hl, ⟨c0, c1, c2, c3⟩, f0, f1, f2, f3⟩ := h
  exact ⟨Nat.lt_of_lt_of_le hl hb.size, ⟨(hb.cell (p := ⟨b, 0, none⟩) hl).trans c0, (hb.cell (p := ⟨b, 1, none⟩) hl).trans c1, (hb.cell (p := ⟨b, 2, none⟩) hl).trans c2, (hb.cell (p := ⟨b, 3, none⟩) hl).trans c3⟩, (hb.frozen (p := ⟨b, 0, none⟩) hl).trans f0, (hb.frozen (p := ⟨b, 1, none⟩) hl).trans f1, (hb.frozen (p := ⟨b, 2, none⟩) hl).trans f2, (hb.frozen (p := ⟨b, 3, none⟩) hl).trans f3⟩
theorem C4.new (W : World) (v0 v1 v2 v3 : Value) (t : TypeId) : C4 (W.alloc (.cells #[v0, v1, v2, v3] t)) W.heap.size v0 v1 v2 v3 := by
  refine ⟨by simp, ⟨by simp, by simp, by simp, by simp⟩, by simp, by simp, by simp, by simp⟩

set_option maxHeartbeats 4000000 in
theorem rd_place (r : Nat) (A : Option Addr) (len cap : Nat) (w : World) (hr : Rd w r A len cap) : Calls Tryd.prog 38 #[.pointer (some ⟨r, 0, none⟩)] w fun e w' =>
    ∃ a b x y, e = .returned (.agg #[.int .i64 a, .int .i64 b, .bool x, .bool y]) ∧ Rd w' r A len cap ∧ Upd r w w' := by
  have HH : Hid (Rd w r A len cap) := hr
  have HL : Hid (r < w.heap.size) := hr.lt
  clear hr
  have C0 : Hid (C4 (w.alloc (.cells #[.int .i64 0, .int .i64 0, .bool false, .bool false] 31)) w.heap.size (.int .i64 0) (.int .i64 0) (.bool false) (.bool false)) := C4.new _ _ _ _ _ _
  go_enter Tryd.func38, Tryd.ntmps38
  go_wp2_with fail
  refine (rd_ref r A len cap _ (HH.out.below (by go_grown))).mono ?_
  rintro e w1 ⟨x, y, rfl, x0, x1, y0, y1, hr, hu⟩
  have HR1 : Hid (Rd w1 r A len cap) := hr
  have HU1 : Hid (Upd r w w1) := (Upd.of_below (Nat.le_of_lt HL.out) (by go_grown)).trans hu
  have C1 : Hid (C4 w1 w.heap.size (.int .i64 0) (.int .i64 0) (.bool false) (.bool false)) := C0.out.upd hu (by have := HL.out; omega)
  clear hr hu C0
  go_wp2_with fail
  refine (rd_once r A len cap 4 _ HR1.out (by omega) (by omega)).mono ?_
  rintro e w2 ⟨p, rfl, hr, hu⟩
  have HR2 : Hid (Rd w2 r A len cap) := hr
  have HU2 : Hid (Upd r w w2) := HU1.out.trans hu
  have C2 : Hid (C4 w2 w.heap.size (.int .i64 0) (.int .i64 0) (.bool false) (.bool false)) := C1.out.upd hu (by have := HL.out; omega)
  clear hr hu C1 HR1 HU1
  go_wp2_with fail
  refine (rd_once r A len cap 4 _ HR2.out (by omega) (by omega)).mono ?_
  rintro e w3 ⟨q, rfl, hr, hu⟩
  have HR3 : Hid (Rd w3 r A len cap) := hr
  have HU3 : Hid (Upd r w w3) := HU2.out.trans hu
  have C3 : Hid (C4 w3 w.heap.size (.int .i64 0) (.int .i64 0) (.bool false) (.bool false)) := C2.out.upd hu (by have := HL.out; omega)
  have HS3 : Hid (w.heap.size < w3.heap.size) := C3.out.1
  have D3 : Hid (C4 (w3.alloc (.cells #[.int .i64 x, .int .i64 y, .bool p, .bool q] 31)) w3.heap.size (.int .i64 x) (.int .i64 y) (.bool p) (.bool q)) := C4.new _ _ _ _ _ _
  clear hr hu C2 HR2 HU2
  go_wp2_with fail
  refine (rd_once r A len cap 20 _ (HR3.out.below (by go_grown)) (by omega) (by omega)).mono ?_
  rintro e w4 ⟨t, rfl, hr, hu⟩
  have HR4 : Hid (Rd w4 r A len cap) := hr
  have HU4 : Hid (Upd r w w4) := HU3.out.trans ((Upd.of_below (by have := HL.out; have := HS3.out; omega) (by go_grown)).trans hu)
  have C4' : Hid (C4 w4 w.heap.size (.int .i64 0) (.int .i64 0) (.bool false) (.bool false)) := (C3.out.below (by go_grown)).upd hu (by have := HL.out; omega)
  have D4 : Hid (C4 w4 w3.heap.size (.int .i64 x) (.int .i64 y) (.bool p) (.bool q)) := D3.out.upd hu (by have := HL.out; have := HS3.out; omega)
  clear hr hu C3 D3 HR3 HU3
  cases t
  · obtain ⟨hl0, ⟨c0, c1, c2, c3⟩, f0, f1, f2, f3⟩ := C4'.out
    obtain ⟨hl3, ⟨d0, d1, d2, d3⟩, g0, g1, g2, g3⟩ := D4.out
    have hs3 := HS3.out
    go_wp2_with fail
    refine bodyPost_ret (v := .agg #[.int .i64 x, .int .i64 y, .bool p, .bool q]) ?_ rfl ⟨_, _, _, _, rfl, HH.out.carry HR4.out HU4.out (by go_grown)⟩
    simp (maxDischargeDepth := 9) [results, Tryd.results38, go_sem, *]
  · go_wp2_with fail
    refine (rd_off r A len cap 1 52 _ HR4.out (by omega) (by omega) (by omega)).mono ?_
    rintro e w5 ⟨x', rfl, hr, hu⟩
    have HR5 : Hid (Rd w5 r A len cap) := hr
    have HU5 : Hid (Upd r w w5) := HU4.out.trans hu
    have C5 : Hid (C4 w5 w.heap.size (.int .i64 0) (.int .i64 0) (.bool false) (.bool false)) := C4'.out.upd hu (by have := HL.out; omega)
    have D5 : Hid (C4 w5 w3.heap.size (.int .i64 x) (.int .i64 y) (.bool p) (.bool q)) := D4.out.upd hu (by have := HL.out; have := HS3.out; omega)
    clear hr hu C4' D4 HR4 HU4
    go_wp2_with fail
    refine (rd_off r A len cap 1 99 _ HR5.out (by omega) (by omega) (by omega)).mono ?_
    rintro e w6 ⟨y', rfl, hr, hu⟩
    have HR6 : Hid (Rd w6 r A len cap) := hr
    have HU6 : Hid (Upd r w w6) := HU5.out.trans hu
    have C6 : Hid (C4 w6 w.heap.size (.int .i64 0) (.int .i64 0) (.bool false) (.bool false)) := C5.out.upd hu (by have := HL.out; omega)
    have D6 : Hid (C4 w6 w3.heap.size (.int .i64 x) (.int .i64 y) (.bool p) (.bool q)) := D5.out.upd hu (by have := HL.out; have := HS3.out; omega)
    clear hr hu C5 D5 HR5 HU5
    obtain ⟨hl0, ⟨c0, c1, c2, c3⟩, f0, f1, f2, f3⟩ := C6.out
    obtain ⟨hl3, ⟨d0, d1, d2, d3⟩, g0, g1, g2, g3⟩ := D6.out
    have hs3 := HS3.out
    have he : ¬ w3.heap.size = w.heap.size := by omega
    have he' : ¬ w.heap.size = w3.heap.size := by omega
    · go_wp2_with fail
      refine bodyPost_ret (v := .agg #[.int .i64 x', .int .i64 y', .bool p, .bool q]) ?_ rfl ⟨_, _, _, _, rfl, HH.out.carry HR6.out HU6.out (by go_grown)⟩
      simp (maxDischargeDepth := 9) [results, Tryd.results38, go_sem, *]
end Go.Proofs.YtjcicndioddcmaaDoor
