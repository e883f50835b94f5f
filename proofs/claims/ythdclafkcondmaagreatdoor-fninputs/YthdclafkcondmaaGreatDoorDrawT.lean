import Derived.Test.YthdclafkcondmaaGreatDoorMn
import Derived.Test.YthdclafkcondmaaGreatDoorDrawS
import Derived.Deep.RegionHeld3
set_option linter.unusedSimpArgs false
set_option linter.unusedVariables false
namespace Go.Proofs.YthdclafkcondmaaGreatDoor
open Go.RowKit
/-- The six signs. -/
def tab6 (n : Nat) : ByteArray := match n with
  | 0 => ⟨#[65]⟩
  | 1 => ⟨#[49]⟩
  | 2 => ⟨#[40]⟩
  | 3 => ⟨#[44]⟩
  | 4 => ⟨#[34]⟩
  | _ => ⟨#[32]⟩
theorem tab6_size (n : Nat) : (tab6 n).size = 1 := by unfold tab6; split <;> rfl
theorem ext_size (s : ByteArray) (a b : Nat) : (s.extract a b).size ≤ s.size := by rw [ByteArray.size_extract]; omega
theorem add_run (x y : ByteArray) (h : x.size + y.size ≤ 1000000) : ∀ W, (Op.stringOp .add x y).run Tryz.prog W = .ok (.string (x ++ y)) W := by
  intro W
  have h' : ¬ 9223372036854775807 < x.size + y.size := by omega
  simp [Op.stringOp, go_sem, h']
  omega
set_option maxRecDepth 100000 in
set_option maxHeartbeats 4000000 in
theorem rd_hurt (r : Nat) (A : Option Addr) (len cap : Nat) (s : ByteArray) (w : World) (hr : Rd w r A len cap) (hs : s.size ≤ 1000) : Calls Tryz.prog 45 #[.pointer (some ⟨r, 0, none⟩), .string s] w fun e w' =>
    ∃ t : ByteArray, e = .returned (.string t) ∧ t.size ≤ s.size + 2 ∧ Rd w' r A len cap ∧ Upd r w w' := by
  have HH : Hid (Rd w r A len cap) := hr
  have HL : Hid (r < w.heap.size) := hr.lt
  clear hr
  go_enter Tryz.func45, Tryz.ntmps45
  go_wp2_with fail
  refine (rd_below r A len cap 6 _ HH.out (by omega) (by omega)).mono ?_
  rintro e w1 ⟨v, rfl, v0, v1, hr, hu⟩
  have HR1 : Hid (Rd w1 r A len cap) := hr
  have HU1 : Hid (Upd r w w1) := hu
  clear hr hu
  by_cases h0 : v = 0
  · subst h0
    go_wp2_with fail
    refine (rd_bytes r A len cap _ HR1.out).mono ?_
    rintro e w2 ⟨t, rfl, ht, hr, hu⟩
    have HR2 : Hid (Rd w2 r A len cap) := hr
    have HU2 : Hid (Upd r w w2) := HU1.out.trans hu
    have hst : ¬ 9223372036854775807 < s.size + t.size := by omega
    clear hr hu
    go_wp2_with fail
    go_ret
    exact ⟨_, rfl, by rw [ByteArray.size_append]; omega, HR2.out, HU2.out⟩
  have n0 : (v == 0) = false := by simpa using h0
  by_cases h1 : v = 1
  · subst h1
    go_wp2_with fail
    refine (rd_below r A len cap ((s.size : Int) + 1) _ HR1.out (by omega) (by omega)).mono ?_
    rintro e w2 ⟨u, rfl, u0, u1, hr, hu⟩
    have HR2 : Hid (Rd w2 r A len cap) := hr
    have HU2 : Hid (Upd r w w2) := HU1.out.trans hu
    clear hr hu
    have u2 : u ≤ (s.size : Int) := by omega
    go_wp2_with fail
    go_ret
    exact ⟨_, rfl, Nat.le_trans (ext_size _ _ _) (by omega), HR2.out, HU2.out⟩
  have n1 : (v == 1) = false := by simpa using h1
  by_cases h2 : v = 2
  · subst h2
    by_cases hz : s.size = 0
    · have hz' : ¬ (0 : Int) < (s.size : Int) := by omega
      go_wp2_with fail
      go_ret
      exact ⟨s, rfl, by omega, HR1.out, HU1.out⟩
    · have hz' : (0 : Int) < (s.size : Int) := by omega
      go_wp2_with fail
      refine (rd_below r A len cap (s.size : Int) _ HR1.out (by omega) (by omega)).mono ?_
      rintro e w2 ⟨u, rfl, u0, u1, hr, hu⟩
      have HR2 : Hid (Rd w2 r A len cap) := hr
      have HU2 : Hid (Upd r w w2) := HU1.out.trans hu
      clear hr hu
      obtain ⟨i, rfl⟩ : ∃ i : Nat, u = (i : Int) := ⟨u.toNat, by omega⟩
      have i1 : (i : Int) ≤ (s.size : Int) := by omega
      have i2 : (0 : Int) ≤ (i : Int) + 1 := by omega
      have i3 : (i : Int) + 1 ≤ (s.size : Int) := by omega
      have hadd1 : ∀ n W, (Op.stringOp .add (s.extract 0 i) (tab6 n)).run Tryz.prog W = .ok (.string (s.extract 0 i ++ tab6 n)) W := fun n => add_run _ _ (by have := ext_size s 0 i; have := tab6_size n; omega)
      have hadd2 : ∀ n W, (Op.stringOp .add (s.extract 0 i ++ tab6 n) (s.extract (i + 1) s.size)).run Tryz.prog W = .ok (.string (s.extract 0 i ++ tab6 n ++ s.extract (i + 1) s.size)) W := fun n => add_run _ _ (by have := ext_size s 0 i; have := tab6_size n; have := ext_size s (i + 1) s.size; rw [ByteArray.size_append]; omega)
      have HFS : Hid (∀ n, (s.extract 0 i ++ tab6 n ++ s.extract (i + 1) s.size).size ≤ s.size + 2) := fun n => by
        have := tab6_size n
        rw [ByteArray.size_append, ByteArray.size_append, ByteArray.size_extract, ByteArray.size_extract]
        omega
      have hwr : IntKind.i64.wrap ((i : Int) + 1) = (i : Int) + 1 := by rw [IntKind.wrap_i64]; omega
      have hto : ((i : Int) + 1).toNat = i + 1 := by omega
      have hw2 : w.heap.size ≤ w2.heap.size := HU2.out.2.2.1
      have hrw := HL.out
      have nr : ¬ w2.heap.size = r := by omega
      have htab : ∀ n, n < 6 → ∀ W : World, (W.alloc (.cells #[.string ⟨#[65]⟩, .string ⟨#[49]⟩, .string ⟨#[40]⟩, .string ⟨#[44]⟩, .string ⟨#[34]⟩, .string ⟨#[32]⟩] 9)).cell? ⟨W.heap.size, n, none⟩ = some (.string (tab6 n)) := fun n hn W => by
        have hn' : n = 0 ∨ n = 1 ∨ n = 2 ∨ n = 3 ∨ n = 4 ∨ n = 5 := by omega
        rcases hn' with rfl | rfl | rfl | rfl | rfl | rfl <;> simp [tab6]
      go_wp2_with fail
      refine wp_region_held_drew (S := fun _ => True) (by kernel_rfl) trivial (fun hHeld => ?_)
      refine tk 0 ?_; try simp only [Act.put, g1, g2, g3, g4, g5, g6]; refine tk 1 ?_; try simp only [Act.put, g1, g2, g3, g4, g5, g6]; refine tk 2 ?_; try simp only [Act.put, g1, g2, g3, g4, g5, g6]; refine tk 4 ?_; try simp only [Act.put, g1, g2, g3, g4, g5, g6]; refine tk 9 ?_; try simp only [Act.put, g1, g2, g3, g4, g5, g6]; refine tk 10 ?_; try simp only [Act.put, g1, g2, g3, g4, g5, g6]; refine tk 11 ?_; try simp only [Act.put, g1, g2, g3, g4, g5, g6]; refine tk 12 ?_; try simp only [Act.put, g1, g2, g3, g4, g5, g6]
      refine r2 3 5 (fun Kq hKq => ?_) (fun Kq hKq => ?_)
      · go_simp
        refine hKq.out _ _ trivial (fun hHeld => ?_)
        clear hKq Kq
        try simp only [Act.put, g1, g2, g3, g4, g5, g6]
        refine r1 5 (fun Kq hKq => ?_)
        go_simp
        refine (rd_below r A len cap 6 _ (HR2.out.below (by go_grown)) (by omega) (by omega)).mono ?_; rintro e w3 ⟨q, rfl, q0, q1, hr, hu⟩; obtain ⟨nq, rfl⟩ : ∃ n : Nat, q = (n : Int) := ⟨q.toNat, by omega⟩; have hq6 : nq < 6 := (by omega); have hq7 : (nq : Int) < 6 := (by omega); have hq8 : (0 : Int) ≤ (nq : Int) := (by omega); have ht7 := htab nq hq6; have HR3 : Hid (Rd w3 r A len cap) := hr; have HU3 : Hid (Upd r w w3) := HU2.out.trans ((Upd.of_below (by omega) (by go_grown)).trans hu); obtain ⟨uc, uf, uz, ub⟩ := hu; (try simp only [World.size_drew] at uc uf uz); clear hr ub
        refine hKq.out _ _ trivial (fun hHeld => ?_)
        clear hKq Kq
        try simp only [Act.put, g1, g2, g3, g4, g5, g6]
        refine tk 6 ?_; try simp only [Act.put, g1, g2, g3, g4, g5, g6]
        refine r1 7 (fun Kq hKq => ?_)
        go_simp
        refine hKq.out _ _ trivial (fun hHeld => ?_)
        clear hKq Kq
        try simp only [Act.put, g1, g2, g3, g4, g5, g6]
        refine tk 8 ?_; try simp only [Act.put, g1, g2, g3, g4, g5, g6]; refine tk 13 ?_; try simp only [Act.put, g1, g2, g3, g4, g5, g6]; refine tk 14 ?_; try simp only [Act.put, g1, g2, g3, g4, g5, g6]
        refine wpAnyH_done (by kernel_rfl) ?_ _
        go_wp2_with fail
        go_ret
        exact ⟨_, rfl, HFS.out nq, HR3.out, HU3.out⟩
      · go_simp
        refine (rd_below r A len cap 6 _ (HR2.out.below (by go_grown)) (by omega) (by omega)).mono ?_; rintro e w3 ⟨q, rfl, q0, q1, hr, hu⟩; obtain ⟨nq, rfl⟩ : ∃ n : Nat, q = (n : Int) := ⟨q.toNat, by omega⟩; have hq6 : nq < 6 := (by omega); have hq7 : (nq : Int) < 6 := (by omega); have hq8 : (0 : Int) ≤ (nq : Int) := (by omega); have ht7 := htab nq hq6; have HR3 : Hid (Rd w3 r A len cap) := hr; have HU3 : Hid (Upd r w w3) := HU2.out.trans ((Upd.of_below (by omega) (by go_grown)).trans hu); obtain ⟨uc, uf, uz, ub⟩ := hu; (try simp only [World.size_drew] at uc uf uz); clear hr ub
        refine hKq.out _ _ trivial (fun hHeld => ?_)
        clear hKq Kq
        try simp only [Act.put, g1, g2, g3, g4, g5, g6]
        refine r1 3 (fun Kq hKq => ?_)
        go_simp
        refine hKq.out _ _ trivial (fun hHeld => ?_)
        clear hKq Kq
        try simp only [Act.put, g1, g2, g3, g4, g5, g6]
        refine tk 6 ?_; try simp only [Act.put, g1, g2, g3, g4, g5, g6]
        refine r1 7 (fun Kq hKq => ?_)
        go_simp
        refine hKq.out _ _ trivial (fun hHeld => ?_)
        clear hKq Kq
        try simp only [Act.put, g1, g2, g3, g4, g5, g6]
        refine tk 8 ?_; try simp only [Act.put, g1, g2, g3, g4, g5, g6]; refine tk 13 ?_; try simp only [Act.put, g1, g2, g3, g4, g5, g6]; refine tk 14 ?_; try simp only [Act.put, g1, g2, g3, g4, g5, g6]
        refine wpAnyH_done (by kernel_rfl) ?_ _
        go_wp2_with fail
        go_ret
        exact ⟨_, rfl, HFS.out nq, HR3.out.below (by go_grown), HU3.out.trans (Upd.of_below (Nat.le_of_lt HR3.out.lt) (by go_grown))⟩
  have n2 : (v == 2) = false := by simpa using h2
  go_wp2_with fail
  go_ret
  exact ⟨s, rfl, by omega, HR1.out, HU1.out⟩
end Go.Proofs.YthdclafkcondmaaGreatDoor
