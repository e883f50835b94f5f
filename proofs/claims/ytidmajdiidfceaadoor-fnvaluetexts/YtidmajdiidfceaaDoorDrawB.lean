import Derived.Test.YtidmajdiidfceaaDoorDraw
namespace Go.Proofs.YtidmajdiidfceaaDoor
open Go.RowKit

theorem ne_of_lt' {r n : Nat} (h : r < n) : ¬ n = r := by omega

set_option maxHeartbeats 1000000 in
theorem rd_near (r : Nat) (A : Option Addr) (len cap : Nat) (l h : Int) (W : World) (hr : Rd W r A len cap) (h0 : 0 ≤ l) (h1 : l ≤ h) (h2 : h ≤ 1000) : Calls Tryd.prog 57 #[.pointer (some ⟨r, 0, none⟩), .int .i64 l, .int .i64 h] W fun e w' =>
    ∃ v, e = .returned (.int .i64 v) ∧ Rd w' r A len cap ∧ Upd r W w' := by
  have HH : Hid (Rd W r A len cap) := hr
  clear hr
  go_enter Tryd.func57, Tryd.ntmps57
  go_wp2_with fail
  refine (rd_below r A len cap 8 _ HH.out (by omega) (by omega)).mono ?_
  rintro e w1 ⟨v, rfl, v0, v1, hr, hu⟩
  have HR : Hid (Rd w1 r A len cap) := hr
  have HU : Hid (Upd r W w1) := hu
  clear hr hu
  by_cases c0 : v = 0
  · subst c0
    go_wp2_with fail
    go_ret
    exact ⟨_, rfl, HR.out, HU.out⟩
  by_cases c1 : v = 1
  · subst c1
    go_wp2_with fail
    go_ret
    exact ⟨_, rfl, HR.out, HU.out⟩
  have q0 : (v == 0) = false := by simpa using c0
  have q1 : (v == 1) = false := by simpa using c1
  have hnl : ¬ h < l := by omega
  go_wp2_with fail
  refine (rd_word r A len cap _ HR.out).mono ?_
  rintro e w2 ⟨u, rfl, u0, u1, hr, hu⟩
  have HR' : Hid (Rd w2 r A len cap) := hr
  have HU' : Hid (Upd r w1 w2) := hu
  clear hr hu u1
  go_wp2_with fail
  all_goals
    go_ret
    exact ⟨_, rfl, HR'.out, HU.out.trans HU'.out⟩

set_option maxHeartbeats 1000000 in
theorem rd_off (r : Nat) (A : Option Addr) (len cap : Nat) (l h : Int) (W : World) (hr : Rd W r A len cap) (h0 : 0 ≤ l) (h1 : l ≤ h) (h2 : h ≤ 1000) : Calls Tryd.prog 34 #[.pointer (some ⟨r, 0, none⟩), .int .i64 l, .int .i64 h] W fun e w' =>
    ∃ v, e = .returned (.int .i64 v) ∧ Rd w' r A len cap ∧ Upd r W w' := by
  have HH : Hid (Rd W r A len cap) := hr
  clear hr
  go_enter Tryd.func34, Tryd.ntmps34
  go_wp2_with fail
  refine (rd_once r A len cap 24 _ HH.out (by omega) (by omega)).mono ?_
  rintro e w1 ⟨b, rfl, hr, hu⟩
  have HR : Hid (Rd w1 r A len cap) := hr
  have HU : Hid (Upd r W w1) := hu
  have hne := ne_of_lt' hr.lt
  clear hr hu
  cases b
  · go_wp2_with fail
    refine (rd_near r A len cap _ _ _ HR.out h0 h1 h2).mono ?_
    rintro e w2 ⟨u, rfl, hr, hu⟩
    have HR' : Hid (Rd w2 r A len cap) := hr
    have HU' : Hid (Upd r w1 w2) := hu
    clear hr hu
    go_wp2_with fail
    go_ret
    exact ⟨_, rfl, HR'.out, HU.out.trans HU'.out⟩
  · go_wp2_with fail
    refine (rd_below r A len cap 4 _ (HR.out.below (by go_grown)) (by omega) (by omega)).mono ?_
    rintro e w2 ⟨v, rfl, v0, v1, hr, hu⟩
    have HR' : Hid (Rd w2 r A len cap) := hr
    have HU' : Hid (Upd r W w2) := HU.out.trans ((Upd.of_below (Nat.le_of_lt HR.out.lt) (by go_grown)).trans hu)
    obtain ⟨uc, uf, uz, ub⟩ := hu
    clear hr ub
    have hv : v = 0 ∨ v = 1 ∨ v = 2 ∨ v = 3 := by omega
    rcases hv with rfl | rfl | rfl | rfl
    all_goals
      go_wp2_with fail
      go_ret
      exact ⟨_, rfl, HR'.out, HU'.out⟩

set_option maxHeartbeats 1000000 in
theorem rd_num (r : Nat) (A : Option Addr) (len cap : Nat) (W : World) (hr : Rd W r A len cap) : Calls Tryd.prog 64 #[.pointer (some ⟨r, 0, none⟩)] W fun e w' =>
    ∃ v, e = .returned (.int .i64 v) ∧ Rd w' r A len cap ∧ Upd r W w' := by
  have HH : Hid (Rd W r A len cap) := hr
  clear hr
  go_enter Tryd.func64, Tryd.ntmps64
  go_wp2_with fail
  refine (rd_once r A len cap 5 _ HH.out (by omega) (by omega)).mono ?_
  rintro e w1 ⟨b, rfl, hr, hu⟩
  have HR : Hid (Rd w1 r A len cap) := hr
  have HU : Hid (Upd r W w1) := hu
  have hne := ne_of_lt' hr.lt
  clear hr hu
  cases b
  · go_wp2_with fail
    refine (rd_below r A len cap 40 _ HR.out (by omega) (by omega)).mono ?_
    rintro e w2 ⟨u, rfl, u0, u1, hr, hu⟩
    have HR' : Hid (Rd w2 r A len cap) := hr
    have HU' : Hid (Upd r w1 w2) := hu
    clear hr hu
    go_wp2_with fail
    go_ret
    exact ⟨_, rfl, HR'.out, HU.out.trans HU'.out⟩
  · go_wp2_with fail
    refine (rd_below r A len cap 5 _ (HR.out.below (by go_grown)) (by omega) (by omega)).mono ?_
    rintro e w2 ⟨v, rfl, v0, v1, hr, hu⟩
    have HR' : Hid (Rd w2 r A len cap) := hr
    have HU' : Hid (Upd r W w2) := HU.out.trans ((Upd.of_below (Nat.le_of_lt HR.out.lt) (by go_grown)).trans hu)
    obtain ⟨uc, uf, uz, ub⟩ := hu
    clear hr ub
    have hv : v = 0 ∨ v = 1 ∨ v = 2 ∨ v = 3 ∨ v = 4 := by omega
    rcases hv with rfl | rfl | rfl | rfl | rfl
    all_goals
      go_wp2_with fail
      go_ret
      exact ⟨_, rfl, HR'.out, HU'.out⟩
end Go.Proofs.YtidmajdiidfceaaDoor
