import Derived.Test.YtidmajdiidfceaaDoorDrawC
import Derived.Deep.RegionHeld3
import Derived.RegionTactic
namespace Go.Proofs.YtidmajdiidfceaaDoor
open Go.RowKit

/-- The bytes of a code that came in. -/
def Cd (W : World) (A : Option Addr) (len : Nat) : Prop := len ≤ 1048576 ∧ ∀ i, i < len → ∃ b o v, A = some ⟨b, o, none⟩ ∧ W.cell? ⟨b, o + i, none⟩ = some (.int .u8 v) ∧ 0 ≤ v ∧ v ≤ 255
theorem Cd.below {W w1 : World} {A : Option Addr} {len : Nat} (h : Cd W A len) (hb : Below W.heap.size W w1) : Cd w1 A len :=
  ⟨h.1, fun i hi => by
    obtain ⟨b, o, v, e, c, v0, v1⟩ := h.2 i hi
    exact ⟨b, o, v, e, (hb.cell (p := ⟨b, o + i, none⟩) (lt_of_cell c)).trans c, v0, v1⟩⟩
theorem Cd.at {W : World} {A : Option Addr} {len : Nat} (h : Cd W A len) : 0 < len → ∀ x, A = some x → x.block < W.heap.size := fun hl x e => by
  obtain ⟨b, o, v, e', c, _⟩ := h.2 0 hl
  rw [e] at e'
  cases e'
  exact lt_of_cell c
/-- A reader that has just been opened. -/
theorem Cd.opened {W : World} {A : Option Addr} {len cap : Nat} (h : Cd W A len) : Rd (W.alloc (.cells #[.slice A len cap, .int .i64 0] 80)) W.heap.size A len cap := by
  refine ⟨h.1, fun i hi => ?_, by simp, by simp, 0, by omega, by simp⟩
  obtain ⟨b, o, v, e, c, v0, v1⟩ := h.2 i hi
  have hl := lt_of_cell c
  exact ⟨b, o, v, e, by omega, ((((Below.refl _ _).alloc (Nat.le_refl _) _ : Below W.heap.size W (W.alloc _))).cell (p := ⟨b, o + i, none⟩) hl).trans c, v0, v1⟩
theorem Cd.open {w W : World} {A : Option Addr} {len cap r : Nat} (h : Cd w A len) (hb : Below w.heap.size w W) (hr : r = W.heap.size) : Rd (W.alloc (.cells #[.slice A len cap, .int .i64 0] 80)) r A len cap := by
  subst hr
  exact (h.below hb).opened
/-- A store into another block than the reader's and its bytes'. -/
theorem Rd.store {W : World} {r B b o : Nat} {A : Option Addr} {len cap : Nat} {v : Value} (h : Rd W r A len cap) (hA : 0 < len → ∀ x, A = some x → x.block < B) (hB : B ≤ b) (hb : ¬ b = r) : Rd (W.setCell ⟨b, o, none⟩ v) r A len cap := by
  obtain ⟨h0, h1, h2, h3, p, hp, h4⟩ := h
  refine ⟨h0, fun i hi => ?_, (World.cell?_setCell_other W ⟨b, o, none⟩ ⟨r, 0, none⟩ v (fun e => hb (congrArg Addr.block e))).trans h2, by simpa using h3, p, hp, (World.cell?_setCell_other W ⟨b, o, none⟩ ⟨r, 1, none⟩ v (fun e => hb (congrArg Addr.block e))).trans h4⟩
  obtain ⟨b', o', v', e, hn, c, v0, v1⟩ := h1 i hi
  have hlt := hA (by omega) _ e
  exact ⟨b', o', v', e, hn, (World.cell?_setCell_other W ⟨b, o, none⟩ ⟨b', o' + i, none⟩ v (fun e => by have := congrArg Addr.block e; simp only at this hlt; omega)).trans c, v0, v1⟩

set_option maxHeartbeats 400000 in
theorem spec_l1Open (A : Option Addr) (len cap : Nat) (w : World) : Calls Tryd.prog 33 #[.slice A len cap] w fun e w' =>
    e = .returned (.pointer (some ⟨w.heap.size, 0, none⟩)) ∧ w.alloc (.cells #[.slice A len cap, .int .i64 0] 80) = w' := by
  go_enter Tryd.func33, Tryd.ntmps33
  go_wp2
  go_ret
  exact ⟨rfl, rfl⟩

set_option maxHeartbeats 400000 in
theorem laws_big (A : Option Addr) (len cap : Nat) (w : World) : Calls Tryd.prog 8 #[.slice A len cap] w fun e w' =>
    e = .returned (.bool (decide ((1048576 : Int) < (len : Int)))) ∧ w' = w := by
  go_enter Tryd.func8, Tryd.ntmps8
  go_wp2
  go_ret
  exact ⟨rfl, rfl⟩

set_option maxHeartbeats 1000000 in
theorem draw_value (A : Option Addr) (len cap : Nat) (w : World) (h : Cd w A len) : Calls Tryd.prog 22 #[.slice A len cap] w fun e w' =>
    ∃ k n s, e = .returned (.agg #[.int .i64 k, .int .i64 n, .string s]) ∧ s.size ≤ maxLen ∧ Below w.heap.size w w' := by
  have HH : Hid (Cd w A len) := h
  clear h
  go_enter Tryd.func22, Tryd.ntmps22
  go_wp2_with fail
  refine (spec_l1Open A len cap _).mono ?_
  rintro e w1 ⟨rfl, rfl⟩
  go_wp2_with fail
  refine (rd_value (w.heap.size + 1) A len cap _ (HH.out.open (by go_grown) (by simp))).mono ?_
  rintro e w2 ⟨k, n, s, rfl, hs, hr, hu⟩
  have HU : Hid (Below w.heap.size w w2) := Below.trans (by go_grown) (hu.2.2.2.mono (Nat.le_add_right _ _))
  have hl : w.heap.size < w2.heap.size := Nat.lt_of_lt_of_le (by go_size) hu.2.2.1
  obtain ⟨uc, uf, uz, ub⟩ := hu
  clear hr ub
  go_wp2_with fail
  refine bodyPost_ret (v := .agg #[.int .i64 k, .int .i64 n, .string s]) ?_ rfl ⟨k, n, s, rfl, hs, ?_⟩
  · simp (maxDischargeDepth := 9) [results, Tryd.results22, go_sem, *]
  · have hk := HU.out
    go_grown
end Go.Proofs.YtidmajdiidfceaaDoor
