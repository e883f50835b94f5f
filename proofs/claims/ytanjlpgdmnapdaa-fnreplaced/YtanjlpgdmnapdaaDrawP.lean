import Derived.Test.YtanjlpgdmnapdaaDraw
import Derived.Deep.RegionHeld3
import Derived.RegionTactic
namespace Go.Proofs.Ytanjlpgdmnapdaa
open Go.RowKit

theorem ne_of_lt' {r n : Nat} (h : r < n) : ¬ n = r := by omega

set_option maxHeartbeats 1000000 in
theorem rd_near (r : Nat) (A : Option Addr) (len cap : Nat) (l h : Int) (W : World) (hr : Rd W r A len cap) (h0 : 0 ≤ l) (h1 : l ≤ h) (h2 : h ≤ 1000) : Calls Try.prog 88 #[.pointer (some ⟨r, 0, none⟩), .int .i64 l, .int .i64 h] W fun e w' =>
    ∃ v, e = .returned (.int .i64 v) ∧ Rd w' r A len cap ∧ Upd r W w' := by
  have HH : Hid (Rd W r A len cap) := hr
  clear hr
  go_enter Try.func88, Try.ntmps88
  go_wp2_with fail
  refine (rd_below r A len cap 8 _ HH.out (by omega) (by omega)).mono ?_
  rintro e w1 ⟨v, rfl, v0, v1, hr, hu⟩
  have HR : Hid (Rd w1 r A len cap) := hr
  have HU : Hid (Upd r W w1) := hu
  clear hr hu
  by_cases c0 : v = 0
  · subst c0
    go_wp2_with fail
    go_ret
    exact ⟨_, rfl, HR.out, HU.out⟩
  by_cases c1 : v = 1
  · subst c1
    go_wp2_with fail
    go_ret
    exact ⟨_, rfl, HR.out, HU.out⟩
  have q0 : (v == 0) = false := by simpa using c0
  have q1 : (v == 1) = false := by simpa using c1
  have hnl : ¬ h < l := by omega
  go_wp2_with fail
  refine (rd_word r A len cap _ HR.out).mono ?_
  rintro e w2 ⟨u, rfl, u0, u1, hr, hu⟩
  have HR' : Hid (Rd w2 r A len cap) := hr
  have HU' : Hid (Upd r w1 w2) := hu
  clear hr hu u1
  go_wp2_with fail
  all_goals
    go_ret
    exact ⟨_, rfl, HR'.out, HU.out.trans HU'.out⟩

set_option maxHeartbeats 1000000 in
theorem rd_off (r : Nat) (A : Option Addr) (len cap : Nat) (l h : Int) (W : World) (hr : Rd W r A len cap) (h0 : 0 ≤ l) (h1 : l ≤ h) (h2 : h ≤ 1000) : Calls Try.prog 56 #[.pointer (some ⟨r, 0, none⟩), .int .i64 l, .int .i64 h] W fun e w' =>
    ∃ v, e = .returned (.int .i64 v) ∧ Rd w' r A len cap ∧ Upd r W w' := by
  have HH : Hid (Rd W r A len cap) := hr
  clear hr
  go_enter Try.func56, Try.ntmps56
  go_wp2_with fail
  refine (rd_once r A len cap 24 _ HH.out (by omega) (by omega)).mono ?_
  rintro e w1 ⟨b, rfl, hr, hu⟩
  have HR : Hid (Rd w1 r A len cap) := hr
  have HU : Hid (Upd r W w1) := hu
  have hne := ne_of_lt' hr.lt
  clear hr hu
  cases b
  · go_wp2_with fail
    refine (rd_near r A len cap _ _ _ HR.out h0 h1 h2).mono ?_
    rintro e w2 ⟨u, rfl, hr, hu⟩
    have HR' : Hid (Rd w2 r A len cap) := hr
    have HU' : Hid (Upd r w1 w2) := hu
    clear hr hu
    go_wp2_with fail
    go_ret
    exact ⟨_, rfl, HR'.out, HU.out.trans HU'.out⟩
  · go_wp2_with fail
    refine (rd_below r A len cap 4 _ (HR.out.below (by go_grown)) (by omega) (by omega)).mono ?_
    rintro e w2 ⟨v, rfl, v0, v1, hr, hu⟩
    have HR' : Hid (Rd w2 r A len cap) := hr
    have HU' : Hid (Upd r W w2) := HU.out.trans ((Upd.of_below (Nat.le_of_lt HR.out.lt) (by go_grown)).trans hu)
    obtain ⟨uc, uf, uz, ub⟩ := hu
    clear hr ub
    have hv : v = 0 ∨ v = 1 ∨ v = 2 ∨ v = 3 := by omega
    rcases hv with rfl | rfl | rfl | rfl
    all_goals
      go_wp2_with fail
      go_ret
      exact ⟨_, rfl, HR'.out, HU'.out⟩


/-- The reader, and what has turned, behind stores into blocks of the call's own. -/
theorem Rd.carry {w w1 w2 : World} {r : Nat} {A : Option Addr} {len cap : Nat} (h : Rd w r A len cap) (h1 : Rd w1 r A len cap) (hu : Upd r w w1) (hb : Below w.heap.size w1 w2) : Rd w2 r A len cap ∧ Upd r w w2 := by
  have hc : ∀ b o, b < w.heap.size → w2.cell? ⟨b, o, none⟩ = w1.cell? ⟨b, o, none⟩ := fun b o hl => hb.cell (p := ⟨b, o, none⟩) hl
  have hf : ∀ b o, b < w.heap.size → w2.frozen? ⟨b, o, none⟩ = w1.frozen? ⟨b, o, none⟩ := fun b o hl => hb.frozen (p := ⟨b, o, none⟩) hl
  have hr := h.lt
  obtain ⟨h0, hby, _, _, _⟩ := h
  obtain ⟨_, _, c0, f1, p, hp, c1⟩ := h1
  refine ⟨⟨h0, fun i hi => ?_, (hc _ _ hr).trans c0, (hf _ _ hr).trans f1, p, hp, (hc _ _ hr).trans c1⟩,
    ⟨fun b o hl hn => (hc b o hl).trans (hu.1 b o hl hn), fun b o hl hn => (hf b o hl).trans (hu.2.1 b o hl hn), Nat.le_trans hu.2.2.1 hb.size, hu.2.2.2.trans (hb.mono (Nat.le_of_lt hr))⟩⟩
  obtain ⟨b, o, v, e, hn, c, v0, v1⟩ := hby i hi
  exact ⟨b, o, v, e, hn, (hc _ _ (lt_of_cell c)).trans ((hu.1 _ _ (lt_of_cell c) hn).trans c), v0, v1⟩


/-- The bytes of a code that came in. -/
def Cd (W : World) (A : Option Addr) (len : Nat) : Prop := len ≤ 1048576 ∧ ∀ i, i < len → ∃ b o v, A = some ⟨b, o, none⟩ ∧ W.cell? ⟨b, o + i, none⟩ = some (.int .u8 v) ∧ 0 ≤ v ∧ v ≤ 255
theorem Cd.below {W w1 : World} {A : Option Addr} {len : Nat} (h : Cd W A len) (hb : Below W.heap.size W w1) : Cd w1 A len :=
  ⟨h.1, fun i hi => by
    obtain ⟨b, o, v, e, c, v0, v1⟩ := h.2 i hi
    exact ⟨b, o, v, e, (hb.cell (p := ⟨b, o + i, none⟩) (lt_of_cell c)).trans c, v0, v1⟩⟩
theorem Cd.at {W : World} {A : Option Addr} {len : Nat} (h : Cd W A len) : 0 < len → ∀ x, A = some x → x.block < W.heap.size := fun hl x e => by
  obtain ⟨b, o, v, e', c, _⟩ := h.2 0 hl
  rw [e] at e'
  cases e'
  exact lt_of_cell c
/-- A reader that has just been opened. -/
theorem Cd.opened {W : World} {A : Option Addr} {len cap : Nat} (h : Cd W A len) : Rd (W.alloc (.cells #[.slice A len cap, .int .i64 0] 107)) W.heap.size A len cap := by
  refine ⟨h.1, fun i hi => ?_, by simp, by simp, 0, by omega, by simp⟩
  obtain ⟨b, o, v, e, c, v0, v1⟩ := h.2 i hi
  have hl := lt_of_cell c
  exact ⟨b, o, v, e, by omega, ((((Below.refl _ _).alloc (Nat.le_refl _) _ : Below W.heap.size W (W.alloc _))).cell (p := ⟨b, o + i, none⟩) hl).trans c, v0, v1⟩
theorem Cd.open {w W : World} {A : Option Addr} {len cap r : Nat} (h : Cd w A len) (hb : Below w.heap.size w W) (hr : r = W.heap.size) : Rd (W.alloc (.cells #[.slice A len cap, .int .i64 0] 107)) r A len cap := by
  subst hr
  exact (h.below hb).opened
/-- A store into another block than the reader's and its bytes'. -/
theorem Rd.store {W : World} {r B b o : Nat} {A : Option Addr} {len cap : Nat} {v : Value} (h : Rd W r A len cap) (hA : 0 < len → ∀ x, A = some x → x.block < B) (hB : B ≤ b) (hb : ¬ b = r) : Rd (W.setCell ⟨b, o, none⟩ v) r A len cap := by
  obtain ⟨h0, h1, h2, h3, p, hp, h4⟩ := h
  refine ⟨h0, fun i hi => ?_, (World.cell?_setCell_other W ⟨b, o, none⟩ ⟨r, 0, none⟩ v (fun e => hb (congrArg Addr.block e))).trans h2, by simpa using h3, p, hp, (World.cell?_setCell_other W ⟨b, o, none⟩ ⟨r, 1, none⟩ v (fun e => hb (congrArg Addr.block e))).trans h4⟩
  obtain ⟨b', o', v', e, hn, c, v0, v1⟩ := h1 i hi
  have hlt := hA (by omega) _ e
  exact ⟨b', o', v', e, hn, (World.cell?_setCell_other W ⟨b, o, none⟩ ⟨b', o' + i, none⟩ v (fun e => by have := congrArg Addr.block e; simp only at this hlt; omega)).trans c, v0, v1⟩

set_option maxHeartbeats 400000 in
theorem spec_l1Open (A : Option Addr) (len cap : Nat) (w : World) : Calls Try.prog 39 #[.slice A len cap] w fun e w' =>
    e = .returned (.pointer (some ⟨w.heap.size, 0, none⟩)) ∧ w.alloc (.cells #[.slice A len cap, .int .i64 0] 107) = w' := by
  go_enter Try.func39, Try.ntmps39
  go_wp2
  go_ret
  exact ⟨rfl, rfl⟩

set_option maxHeartbeats 400000 in
theorem laws_big (A : Option Addr) (len cap : Nat) (w : World) : Calls Try.prog 12 #[.slice A len cap] w fun e w' =>
    e = .returned (.bool (decide ((1048576 : Int) < (len : Int)))) ∧ w' = w := by
  go_enter Try.func12, Try.ntmps12
  go_wp2
  go_ret
  exact ⟨rfl, rfl⟩

end Go.Proofs.Ytanjlpgdmnapdaa
