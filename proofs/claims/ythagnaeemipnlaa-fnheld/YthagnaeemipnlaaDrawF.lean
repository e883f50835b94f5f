import Derived.Test.YthagnaeemipnlaaDrawE
namespace Go.Proofs.Ythagnaeemipnlaa
open Go.RowKit

set_option maxHeartbeats 2000000 in
theorem draw_held (A : Option Addr) (len cap : Nat) (w : World) (h : Cd w A len) : Calls Try.prog 8 #[.slice A len cap] w fun e w' =>
    ∃ op k n s k' n' s', e = .returned (.tuple #[.int .i64 op, .agg #[.int .i64 k, .int .i64 n, .string s], .agg #[.int .i64 k', .int .i64 n', .string s']]) ∧ s.size ≤ maxLen ∧ s'.size ≤ maxLen ∧ Below w.heap.size w w' := by
  have HH : Hid (Cd w A len) := h
  have HA : Hid (0 < len → ∀ x, A = some x → x.block < w.heap.size) := h.at
  clear h
  go_enter Try.func8, Try.ntmps8
  go_wp2_with fail
  refine (spec_l1Open A len cap _).mono ?_
  rintro e w1 ⟨rfl, rfl⟩
  go_wp2_with fail
  refine (rd_off (w.heap.size + 1 + 1) A len cap 6 11 _ (HH.out.open (by go_grown) (by simp)) (by omega) (by omega) (by omega)).mono ?_
  rintro e w0 ⟨op, rfl, hr0, hu0⟩
  have HR0 : Hid (Rd w0 (w.heap.size + 1 + 1) A len cap) := hr0
  have HU0 : Hid (Upd (w.heap.size + 1 + 1) _ w0) := hu0
  clear hr0 hu0
  go_wp2_with fail
  refine (rd_value (w.heap.size + 1 + 1) A len cap _ HR0.out).mono ?_
  rintro e w2 ⟨k, n, s, rfl, hs, hr, hu'⟩
  have hu := HU0.out.trans hu'
  clear hu' HU0 HR0
  have HR : Hid (Rd w2 (w.heap.size + 1 + 1) A len cap) := hr
  have HU : Hid (Below w.heap.size w w2) := Below.trans (by go_grown) (hu.2.2.2.mono (by omega))
  have HS : Hid (s.size ≤ maxLen) := hs
  have hz2 : w.heap.size + 3 ≤ w2.heap.size := Nat.le_trans (by go_size) hu.2.2.1
  have l0 : w.heap.size < w2.heap.size := by omega
  have le0 : w.heap.size ≤ w2.heap.size := by omega
  have l1 : w.heap.size + 1 < w2.heap.size := by omega
  have n0 : ¬ w2.heap.size = w.heap.size + 1 + 1 := by omega
  have n1 : ¬ w2.heap.size = w.heap.size + 1 := by omega
  have n2 : ¬ w2.heap.size = w.heap.size := by omega
  obtain ⟨uc, uf, uz, ub⟩ := hu
  clear hr ub hs
  go_wp2_with fail
  refine (rd_once (w.heap.size + 1 + 1) A len cap 5 _ (HR.out.below (by go_grown)) (by omega) (by omega)).mono ?_
  rintro e w3 ⟨b, rfl, hr, hu⟩
  have HR' : Hid (Rd w3 (w.heap.size + 1 + 1) A len cap) := hr
  have hk2 := HU.out
  have HU' : Hid (Below w.heap.size w w3) := Below.trans (b := w2.alloc (.cells #[.int .i64 k, .int .i64 n, .string s] 25)) (by go_grown) (hu.2.2.2.mono (by omega))
  have m0 : w.heap.size < w3.heap.size := Nat.lt_of_lt_of_le (by go_size) hu.2.2.1
  have m1 : w.heap.size + 1 < w3.heap.size := Nat.lt_of_lt_of_le (by go_size) hu.2.2.1
  have m2 : w2.heap.size < w3.heap.size := Nat.lt_of_lt_of_le (by go_size) hu.2.2.1
  obtain ⟨uc', uf', uz', ub'⟩ := hu
  clear hr ub' hk2
  have ba : Below w2.heap.size w2 (w2.alloc (.cells #[.int .i64 k, .int .i64 n, .string s] 25)) := (Below.refl _ _).alloc (Nat.le_refl _) _
  have g3 : ∀ bq oq, bq < w.heap.size + 2 → w3.cell? ⟨bq, oq, none⟩ = (((w.alloc (.cells #[.int .i64 0, .int .i64 0, .string ⟨#[]⟩] 25)).alloc (.cells #[.int .i64 0, .int .i64 0, .string ⟨#[]⟩] 25)).alloc (.cells #[.slice A len cap, .int .i64 0] 72)).cell? ⟨bq, oq, none⟩ := fun bq oq hq =>
    (uc' bq oq (by simp; omega) (by omega)).trans ((ba.cell (p := ⟨bq, oq, none⟩) (by show bq < _; omega)).trans (uc bq oq (by simp; omega) (by omega)))
  have g3f : ∀ bq oq, bq < w.heap.size + 2 → w3.frozen? ⟨bq, oq, none⟩ = (((w.alloc (.cells #[.int .i64 0, .int .i64 0, .string ⟨#[]⟩] 25)).alloc (.cells #[.int .i64 0, .int .i64 0, .string ⟨#[]⟩] 25)).alloc (.cells #[.slice A len cap, .int .i64 0] 72)).frozen? ⟨bq, oq, none⟩ := fun bq oq hq =>
    (uf' bq oq (by simp; omega) (by omega)).trans ((ba.frozen (p := ⟨bq, oq, none⟩) (by show bq < _; omega)).trans (uf bq oq (by simp; omega) (by omega)))
  obtain ⟨a0, a1, a2⟩ : w3.cell? ⟨w2.heap.size, 0, none⟩ = some (.int .i64 k) ∧ w3.cell? ⟨w2.heap.size, 1, none⟩ = some (.int .i64 n) ∧ w3.cell? ⟨w2.heap.size, 2, none⟩ = some (.string s) := by
    refine ⟨?_, ?_, ?_⟩
    all_goals
      rw [uc' _ _ (by simp) (by omega)]
      simp
  clear ba
  clear uc uf uc' uf' uz uz'
  cases b
  · go_wp2_with fail
    go_region_held3 (fun w' => w'.cell? ⟨w2.heap.size, 0, none⟩ = some (.int .i64 k) ∧ w'.cell? ⟨w2.heap.size, 1, none⟩ = some (.int .i64 n) ∧ w'.cell? ⟨w2.heap.size, 2, none⟩ = some (.string s))
      (simp (maxDischargeDepth := 9) [go_sem, *])
      (first
      | (go_at_call 24; refine (rd_value (w.heap.size + 1 + 1) A len cap _ ?_).mono ?_; (focus (first | exact HR'.out | exact (((HR'.out.store HA.out (Nat.le_refl _) (by omega)).store HA.out (Nat.le_refl _) (by omega)).store HA.out (Nat.le_refl _) (by omega)).keep (fun _ _ _ => rfl) (fun _ _ _ => rfl))); rintro e w4 ⟨k', n', s', rfl, hs', hr, hu⟩; have HS' : Hid (s'.size ≤ maxLen) := hs'; have HU4 : Hid (Below w.heap.size w3 w4) := Below.trans (by go_grown) (hu.2.2.2.mono (by omega)); obtain ⟨uc, uf, uz, ub⟩ := hu; (try simp only [World.size_drew] at uc uf uz); have g4 : ∀ bq oq, bq < w.heap.size + 2 → w4.cell? ⟨bq, oq, none⟩ = (((w.alloc (.cells #[.int .i64 0, .int .i64 0, .string ⟨#[]⟩] 25)).alloc (.cells #[.int .i64 0, .int .i64 0, .string ⟨#[]⟩] 25)).alloc (.cells #[.slice A len cap, .int .i64 0] 72)).cell? ⟨bq, oq, none⟩ := fun bq oq hq => (uc bq oq (by omega) (by omega)).trans (g3 bq oq hq); have g4f : ∀ bq oq, bq < w.heap.size + 2 → w4.frozen? ⟨bq, oq, none⟩ = (((w.alloc (.cells #[.int .i64 0, .int .i64 0, .string ⟨#[]⟩] 25)).alloc (.cells #[.int .i64 0, .int .i64 0, .string ⟨#[]⟩] 25)).alloc (.cells #[.slice A len cap, .int .i64 0] 72)).frozen? ⟨bq, oq, none⟩ := fun bq oq hq => (uf bq oq (by omega) (by omega)).trans (g3f bq oq hq); have b0 := (uc w2.heap.size 0 (by omega) (by omega)).trans a0; have b1 := (uc w2.heap.size 1 (by omega) (by omega)).trans a1; have b2 := (uc w2.heap.size 2 (by omega) (by omega)).trans a2; clear hr ub hs' uc uf))
    all_goals go_wp2_with fail
    all_goals
      refine bodyPost_ret (v := .tuple #[.int .i64 op, .agg #[.int .i64 k, .int .i64 n, .string s], .agg #[.int .i64 k', .int .i64 n', .string s']]) ?_ rfl ⟨op, k, n, s, k', n', s', rfl, HS.out, HS'.out, ?_⟩
      · simp (maxDischargeDepth := 9) [results, Try.results8, go_sem, *]
      · have hk := HU'.out.trans HU4.out
        go_grown
  · go_wp2_with fail
    go_region
    all_goals go_wp2_with fail
    all_goals
      refine bodyPost_ret (v := .tuple #[.int .i64 op, .agg #[.int .i64 k, .int .i64 n, .string s], .agg #[.int .i64 k, .int .i64 n, .string s]]) ?_ rfl ⟨op, k, n, s, k, n, s, rfl, HS.out, HS.out, ?_⟩
      · simp (maxDischargeDepth := 9) [results, Try.results8, go_sem, *]
      · have hk := HU'.out
        go_grown
end Go.Proofs.Ythagnaeemipnlaa
