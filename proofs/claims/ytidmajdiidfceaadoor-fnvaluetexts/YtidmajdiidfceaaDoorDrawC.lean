import Derived.Test.YtidmajdiidfceaaDoorDrawB
namespace Go.Proofs.YtidmajdiidfceaaDoor
open Go.RowKit

/-- The reader, and what has turned, behind stores into blocks of the call's own. -/
theorem Rd.carry {w w1 w2 : World} {r : Nat} {A : Option Addr} {len cap : Nat} (h : Rd w r A len cap) (h1 : Rd w1 r A len cap) (hu : Upd r w w1) (hb : Below w.heap.size w1 w2) : Rd w2 r A len cap ∧ Upd r w w2 := by
  have hc : ∀ b o, b < w.heap.size → w2.cell? ⟨b, o, none⟩ = w1.cell? ⟨b, o, none⟩ := fun b o hl => hb.cell (p := ⟨b, o, none⟩) hl
  have hf : ∀ b o, b < w.heap.size → w2.frozen? ⟨b, o, none⟩ = w1.frozen? ⟨b, o, none⟩ := fun b o hl => hb.frozen (p := ⟨b, o, none⟩) hl
  have hr := h.lt
  obtain ⟨h0, hby, _, _, _⟩ := h
  obtain ⟨_, _, c0, f1, p, hp, c1⟩ := h1
  refine ⟨⟨h0, fun i hi => ?_, (hc _ _ hr).trans c0, (hf _ _ hr).trans f1, p, hp, (hc _ _ hr).trans c1⟩,
    ⟨fun b o hl hn => (hc b o hl).trans (hu.1 b o hl hn), fun b o hl hn => (hf b o hl).trans (hu.2.1 b o hl hn), Nat.le_trans hu.2.2.1 hb.size, hu.2.2.2.trans (hb.mono (Nat.le_of_lt hr))⟩⟩
  obtain ⟨b, o, v, e, hn, c, v0, v1⟩ := hby i hi
  exact ⟨b, o, v, e, hn, (hc _ _ (lt_of_cell c)).trans ((hu.1 _ _ (lt_of_cell c) hn).trans c), v0, v1⟩

set_option maxHeartbeats 4000000 in
theorem rd_value (r : Nat) (A : Option Addr) (len cap : Nat) (w : World) (hr : Rd w r A len cap) : Calls Tryd.prog 49 #[.pointer (some ⟨r, 0, none⟩)] w fun e w' =>
    ∃ k n s, e = .returned (.agg #[.int .i64 k, .int .i64 n, .string s]) ∧ s.size ≤ maxLen ∧ Rd w' r A len cap ∧ Upd r w w' := by
  have HH : Hid (Rd w r A len cap) := hr
  have hne := ne_of_lt' hr.lt
  have HL : Hid (r ≤ w.heap.size) := Nat.le_of_lt hr.lt
  clear hr
  go_enter Tryd.func49, Tryd.ntmps49
  go_wp2_with fail
  refine (rd_below r A len cap 8 _ (HH.out.below (by go_grown)) (by omega) (by omega)).mono ?_
  rintro e w1 ⟨c, rfl, c0, c1, hr, hu⟩
  have HR1 : Hid (Rd w1 r A len cap) := hr
  have HU1 : Hid (Upd r w w1) := (Upd.of_below HL.out (by go_grown)).trans hu
  have hl1 : w.heap.size < w1.heap.size := Nat.lt_of_lt_of_le (by go_size) hu.2.2.1
  obtain ⟨uc1, uf1, uz1, ub1⟩ := hu
  clear hr ub1
  have hcs : c = 0 ∨ c = 1 ∨ c = 2 ∨ c = 3 ∨ c = 4 ∨ c = 5 ∨ c = 6 ∨ c = 7 := by omega
  clear c0 c1
  rcases hcs with rfl | rfl | rfl | rfl | rfl | rfl | rfl | rfl
  · skip
    go_wp2_with fail
    refine bodyPost_ret (v := .agg #[.int .i64 (0), .int .i64 (0), .string (⟨#[]⟩)]) ?_ rfl ⟨_, _, _, rfl, by decide +kernel, HH.out.carry HR1.out HU1.out (by go_grown)⟩
    simp (maxDischargeDepth := 9) [results, Tryd.results49, go_sem, *]
  · go_wp2_with fail
    refine (rd_num r A len cap _ HR1.out).mono ?_
    rintro e w2 ⟨v, rfl, hr, hu⟩
    have HR2 : Hid (Rd w2 r A len cap) := hr
    have HU2 : Hid (Upd r w w2) := HU1.out.trans hu
    have hl2 : w.heap.size < w2.heap.size := Nat.lt_of_lt_of_le (by go_size) hu.2.2.1
    obtain ⟨uc2, uf2, uz2, ub2⟩ := hu
    clear hr ub2
    go_wp2_with fail
    refine bodyPost_ret (v := .agg #[.int .i64 (1), .int .i64 (v), .string (⟨#[]⟩)]) ?_ rfl ⟨_, _, _, rfl, by decide +kernel, HH.out.carry HR2.out HU2.out (by go_grown)⟩
    simp (maxDischargeDepth := 9) [results, Tryd.results49, go_sem, *]
  · go_wp2_with fail
    refine (rd_num r A len cap _ HR1.out).mono ?_
    rintro e w2 ⟨v, rfl, hr, hu⟩
    have HR2 : Hid (Rd w2 r A len cap) := hr
    have HU2 : Hid (Upd r w w2) := HU1.out.trans hu
    have hl2 : w.heap.size < w2.heap.size := Nat.lt_of_lt_of_le (by go_size) hu.2.2.1
    obtain ⟨uc2, uf2, uz2, ub2⟩ := hu
    clear hr ub2
    go_wp2_with fail
    refine bodyPost_ret (v := .agg #[.int .i64 (1), .int .i64 (v), .string (⟨#[]⟩)]) ?_ rfl ⟨_, _, _, rfl, by decide +kernel, HH.out.carry HR2.out HU2.out (by go_grown)⟩
    simp (maxDischargeDepth := 9) [results, Tryd.results49, go_sem, *]
  · go_wp2_with fail
    refine (rd_num r A len cap _ HR1.out).mono ?_
    rintro e w2 ⟨v, rfl, hr, hu⟩
    have HR2 : Hid (Rd w2 r A len cap) := hr
    have HU2 : Hid (Upd r w w2) := HU1.out.trans hu
    have hl2 : w.heap.size < w2.heap.size := Nat.lt_of_lt_of_le (by go_size) hu.2.2.1
    obtain ⟨uc2, uf2, uz2, ub2⟩ := hu
    clear hr ub2
    go_wp2_with fail
    refine bodyPost_ret (v := .agg #[.int .i64 (1), .int .i64 (v), .string (⟨#[]⟩)]) ?_ rfl ⟨_, _, _, rfl, by decide +kernel, HH.out.carry HR2.out HU2.out (by go_grown)⟩
    simp (maxDischargeDepth := 9) [results, Tryd.results49, go_sem, *]
  · go_wp2_with fail
    have hne1 := ne_of_lt' HR1.out.lt
    refine (rd_below r A len cap 6 _ (HR1.out.below (by go_grown)) (by omega) (by omega)).mono ?_
    rintro e w2 ⟨v, rfl, v0, v1, hr, hu⟩
    have HR2 : Hid (Rd w2 r A len cap) := hr
    have HU2 : Hid (Upd r w w2) := HU1.out.trans ((Upd.of_below (Nat.le_of_lt HR1.out.lt) (by go_grown)).trans hu)
    have hl2 : w.heap.size < w2.heap.size := Nat.lt_of_lt_of_le (by go_size) hu.2.2.1
    obtain ⟨uc2, uf2, uz2, ub2⟩ := hu
    clear hr ub2
    have hvs : v = 0 ∨ v = 1 ∨ v = 2 ∨ v = 3 ∨ v = 4 ∨ v = 5 := by omega
    clear v0 v1
    rcases hvs with rfl | rfl | rfl | rfl | rfl | rfl
    · skip
      go_wp2_with fail
      refine bodyPost_ret (v := .agg #[.int .i64 (2), .int .i64 (0), .string (⟨#[]⟩)]) ?_ rfl ⟨_, _, _, rfl, by decide +kernel, HH.out.carry HR2.out HU2.out (by go_grown)⟩
      simp (maxDischargeDepth := 9) [results, Tryd.results49, go_sem, *]
    · skip
      go_wp2_with fail
      refine bodyPost_ret (v := .agg #[.int .i64 (2), .int .i64 (0), .string (⟨#[97]⟩)]) ?_ rfl ⟨_, _, _, rfl, by decide +kernel, HH.out.carry HR2.out HU2.out (by go_grown)⟩
      simp (maxDischargeDepth := 9) [results, Tryd.results49, go_sem, *]
    · skip
      go_wp2_with fail
      refine bodyPost_ret (v := .agg #[.int .i64 (2), .int .i64 (0), .string (⟨#[97, 98]⟩)]) ?_ rfl ⟨_, _, _, rfl, by decide +kernel, HH.out.carry HR2.out HU2.out (by go_grown)⟩
      simp (maxDischargeDepth := 9) [results, Tryd.results49, go_sem, *]
    · skip
      go_wp2_with fail
      refine bodyPost_ret (v := .agg #[.int .i64 (2), .int .i64 (0), .string (⟨#[49]⟩)]) ?_ rfl ⟨_, _, _, rfl, by decide +kernel, HH.out.carry HR2.out HU2.out (by go_grown)⟩
      simp (maxDischargeDepth := 9) [results, Tryd.results49, go_sem, *]
    · skip
      go_wp2_with fail
      refine bodyPost_ret (v := .agg #[.int .i64 (2), .int .i64 (0), .string (⟨#[39]⟩)]) ?_ rfl ⟨_, _, _, rfl, by decide +kernel, HH.out.carry HR2.out HU2.out (by go_grown)⟩
      simp (maxDischargeDepth := 9) [results, Tryd.results49, go_sem, *]
    · skip
      go_wp2_with fail
      refine bodyPost_ret (v := .agg #[.int .i64 (2), .int .i64 (0), .string (⟨#[34, 113, 34]⟩)]) ?_ rfl ⟨_, _, _, rfl, by decide +kernel, HH.out.carry HR2.out HU2.out (by go_grown)⟩
      simp (maxDischargeDepth := 9) [results, Tryd.results49, go_sem, *]
  · go_wp2_with fail
    refine (rd_below r A len cap 2 _ HR1.out (by omega) (by omega)).mono ?_
    rintro e w2 ⟨v, rfl, v0, v1, hr, hu⟩
    have HR2 : Hid (Rd w2 r A len cap) := hr
    have HU2 : Hid (Upd r w w2) := HU1.out.trans hu
    have hl2 : w.heap.size < w2.heap.size := Nat.lt_of_lt_of_le (by go_size) hu.2.2.1
    obtain ⟨uc2, uf2, uz2, ub2⟩ := hu
    clear hr ub2
    go_wp2_with fail
    refine bodyPost_ret (v := .agg #[.int .i64 (3), .int .i64 (v), .string (⟨#[]⟩)]) ?_ rfl ⟨_, _, _, rfl, by decide +kernel, HH.out.carry HR2.out HU2.out (by go_grown)⟩
    simp (maxDischargeDepth := 9) [results, Tryd.results49, go_sem, *]
  · go_wp2_with fail
    refine (rd_below r A len cap 5 _ HR1.out (by omega) (by omega)).mono ?_
    rintro e w2 ⟨v, rfl, v0, v1, hr, hu⟩
    have HR2 : Hid (Rd w2 r A len cap) := hr
    have HU2 : Hid (Upd r w w2) := HU1.out.trans hu
    have hl2 : w.heap.size < w2.heap.size := Nat.lt_of_lt_of_le (by go_size) hu.2.2.1
    obtain ⟨uc2, uf2, uz2, ub2⟩ := hu
    clear hr ub2
    go_wp2_with fail
    refine bodyPost_ret (v := .agg #[.int .i64 (4), .int .i64 (1 + v), .string (⟨#[]⟩)]) ?_ rfl ⟨_, _, _, rfl, by decide +kernel, HH.out.carry HR2.out HU2.out (by go_grown)⟩
    simp (maxDischargeDepth := 9) [results, Tryd.results49, go_sem, *]
  · go_wp2_with fail
    refine (rd_once r A len cap 4 _ HR1.out (by omega) (by omega)).mono ?_
    rintro e w2 ⟨b, rfl, hr, hu⟩
    have HR2 : Hid (Rd w2 r A len cap) := hr
    have HU2 : Hid (Upd r w w2) := HU1.out.trans hu
    have hl2 : w.heap.size < w2.heap.size := Nat.lt_of_lt_of_le (by go_size) hu.2.2.1
    obtain ⟨uc2, uf2, uz2, ub2⟩ := hu
    clear hr ub2
    cases b
    · go_wp2_with fail
      refine (rd_below r A len cap 5 _ HR2.out (by omega) (by omega)).mono ?_
      rintro e w3 ⟨v, rfl, v0, v1, hr, hu⟩
      have HR3 : Hid (Rd w3 r A len cap) := hr
      have HU3 : Hid (Upd r w w3) := HU2.out.trans hu
      have hl3 : w.heap.size < w3.heap.size := Nat.lt_of_lt_of_le (by go_size) hu.2.2.1
      obtain ⟨uc3, uf3, uz3, ub3⟩ := hu
      clear hr ub3
      go_wp2_with fail
      refine bodyPost_ret (v := .agg #[.int .i64 (1), .int .i64 (v), .string (⟨#[]⟩)]) ?_ rfl ⟨_, _, _, rfl, by decide +kernel, HH.out.carry HR3.out HU3.out (by go_grown)⟩
      simp (maxDischargeDepth := 9) [results, Tryd.results49, go_sem, *]
    · go_wp2_with fail
      refine (rd_off r A len cap 0 4 _ HR2.out (by omega) (by omega) (by omega)).mono ?_
      rintro e w3 ⟨v, rfl, hr, hu⟩
      have HR3 : Hid (Rd w3 r A len cap) := hr
      have HU3 : Hid (Upd r w w3) := HU2.out.trans hu
      have hl3 : w.heap.size < w3.heap.size := Nat.lt_of_lt_of_le (by go_size) hu.2.2.1
      obtain ⟨uc3, uf3, uz3, ub3⟩ := hu
      clear hr ub3
      go_wp2_with fail
      refine (rd_off r A len cap 0 5 _ HR3.out (by omega) (by omega) (by omega)).mono ?_
      rintro e w4 ⟨v', rfl, hr, hu⟩
      have HR4 : Hid (Rd w4 r A len cap) := hr
      have HU4 : Hid (Upd r w w4) := HU3.out.trans hu
      have hl4 : w.heap.size < w4.heap.size := Nat.lt_of_lt_of_le (by go_size) hu.2.2.1
      obtain ⟨uc4, uf4, uz4, ub4⟩ := hu
      clear hr ub4
      go_wp2_with fail
      refine bodyPost_ret (v := .agg #[.int .i64 (v), .int .i64 (v'), .string (⟨#[]⟩)]) ?_ rfl ⟨_, _, _, rfl, by decide +kernel, HH.out.carry HR4.out HU4.out (by go_grown)⟩
      simp (maxDischargeDepth := 9) [results, Tryd.results49, go_sem, *]
end Go.Proofs.YtidmajdiidfceaaDoor
