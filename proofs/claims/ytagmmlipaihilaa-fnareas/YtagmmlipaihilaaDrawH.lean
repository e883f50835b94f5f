import Derived.Test.YtagmmlipaihilaaDrawG
namespace Go.Proofs.Ytagmmlipaihilaa
open Go.RowKit

set_option maxHeartbeats 2000000 in
theorem draw_common (A : Option Addr) (len cap : Nat) (w : World) (h : Cd w A len) : Calls Try.prog 11 #[.slice A len cap] w fun e w' =>
    ∃ a b c d a' b' c' d', e = .returned (.tuple #[.agg #[.int .i64 a, .int .i64 b, .int .i64 c, .int .i64 d], .agg #[.int .i64 a', .int .i64 b', .int .i64 c', .int .i64 d']]) ∧ Below w.heap.size w w' := by
  have HH : Hid (Cd w A len) := h
  have HA : Hid (0 < len → ∀ x, A = some x → x.block < w.heap.size) := h.at
  clear h
  go_enter Try.func11, Try.ntmps11
  go_wp2_with fail
  refine (spec_l1Open A len cap _).mono ?_
  rintro e w1 ⟨rfl, rfl⟩
  go_wp2_with fail
  refine (rd_area (w.heap.size + 1 + 1) A len cap _ (HH.out.open (by go_grown) (by simp))).mono ?_
  rintro e w2 ⟨a, b, c, d, rfl, hr, hu⟩
  have HR : Hid (Rd w2 (w.heap.size + 1 + 1) A len cap) := hr
  have HU : Hid (Below w.heap.size w w2) := Below.trans (by go_grown) (hu.2.2.2.mono (by omega))
  have hz2 : w.heap.size + 3 ≤ w2.heap.size := Nat.le_trans (by go_size) hu.2.2.1
  have l0 : w.heap.size < w2.heap.size := by omega
  have le0 : w.heap.size ≤ w2.heap.size := by omega
  have l1 : w.heap.size + 1 < w2.heap.size := by omega
  have n0 : ¬ w2.heap.size = w.heap.size + 1 + 1 := by omega
  have n1 : ¬ w2.heap.size = w.heap.size + 1 := by omega
  have n2 : ¬ w2.heap.size = w.heap.size := by omega
  obtain ⟨uc, uf, uz, ub⟩ := hu
  have g2 : ∀ bq oq, bq < w.heap.size + 2 → w2.cell? ⟨bq, oq, none⟩ = (((w.alloc (.cells #[.int .i64 0, .int .i64 0, .int .i64 0, .int .i64 0] 27)).alloc (.cells #[.int .i64 0, .int .i64 0, .int .i64 0, .int .i64 0] 27)).alloc (.cells #[.slice A len cap, .int .i64 0] 59)).cell? ⟨bq, oq, none⟩ := fun bq oq hq => uc bq oq (by simp; omega) (by omega)
  have g2f : ∀ bq oq, bq < w.heap.size + 2 → w2.frozen? ⟨bq, oq, none⟩ = (((w.alloc (.cells #[.int .i64 0, .int .i64 0, .int .i64 0, .int .i64 0] 27)).alloc (.cells #[.int .i64 0, .int .i64 0, .int .i64 0, .int .i64 0] 27)).alloc (.cells #[.slice A len cap, .int .i64 0] 59)).frozen? ⟨bq, oq, none⟩ := fun bq oq hq => uf bq oq (by simp; omega) (by omega)
  have ba : Below w2.heap.size w2 (w2.alloc (.cells #[.int .i64 a, .int .i64 b, .int .i64 c, .int .i64 d] 27)) := (Below.refl _ _).alloc (Nat.le_refl _) _
  have HUA : Hid (Below w.heap.size w (w2.alloc (.cells #[.int .i64 a, .int .i64 b, .int .i64 c, .int .i64 d] 27))) := HU.out.trans (ba.mono le0)
  have HRA : Hid (Rd (w2.alloc (.cells #[.int .i64 a, .int .i64 b, .int .i64 c, .int .i64 d] 27)) (w.heap.size + 1 + 1) A len cap) := HR.out.below ba
  have HSZ : Hid ((w2.alloc (.cells #[.int .i64 a, .int .i64 b, .int .i64 c, .int .i64 d] 27)).heap.size = w2.heap.size + 1) := (World.size_alloc _ _ : _)
  have g3 : ∀ bq oq, bq < w.heap.size + 2 → (w2.alloc (.cells #[.int .i64 a, .int .i64 b, .int .i64 c, .int .i64 d] 27)).cell? ⟨bq, oq, none⟩ = (((w.alloc (.cells #[.int .i64 0, .int .i64 0, .int .i64 0, .int .i64 0] 27)).alloc (.cells #[.int .i64 0, .int .i64 0, .int .i64 0, .int .i64 0] 27)).alloc (.cells #[.slice A len cap, .int .i64 0] 59)).cell? ⟨bq, oq, none⟩ := fun bq oq hq => (ba.cell (p := ⟨bq, oq, none⟩) (by show bq < _; omega)).trans (g2 bq oq hq)
  have g3f : ∀ bq oq, bq < w.heap.size + 2 → (w2.alloc (.cells #[.int .i64 a, .int .i64 b, .int .i64 c, .int .i64 d] 27)).frozen? ⟨bq, oq, none⟩ = (((w.alloc (.cells #[.int .i64 0, .int .i64 0, .int .i64 0, .int .i64 0] 27)).alloc (.cells #[.int .i64 0, .int .i64 0, .int .i64 0, .int .i64 0] 27)).alloc (.cells #[.slice A len cap, .int .i64 0] 59)).frozen? ⟨bq, oq, none⟩ := fun bq oq hq => (ba.frozen (p := ⟨bq, oq, none⟩) (by show bq < _; omega)).trans (g2f bq oq hq)
  obtain ⟨a0, a1, a2, a3⟩ : (w2.alloc (.cells #[.int .i64 a, .int .i64 b, .int .i64 c, .int .i64 d] 27)).cell? ⟨w2.heap.size, 0, none⟩ = some (.int .i64 a) ∧ (w2.alloc (.cells #[.int .i64 a, .int .i64 b, .int .i64 c, .int .i64 d] 27)).cell? ⟨w2.heap.size, 1, none⟩ = some (.int .i64 b) ∧ (w2.alloc (.cells #[.int .i64 a, .int .i64 b, .int .i64 c, .int .i64 d] 27)).cell? ⟨w2.heap.size, 2, none⟩ = some (.int .i64 c) ∧ (w2.alloc (.cells #[.int .i64 a, .int .i64 b, .int .i64 c, .int .i64 d] 27)).cell? ⟨w2.heap.size, 3, none⟩ = some (.int .i64 d) := by
    refine ⟨?_, ?_, ?_, ?_⟩ <;> simp
  clear hr ub uc uf uz ba g2 g2f
  go_wp2_with fail
  obtain ⟨w3, hw3⟩ : ∃ w3, w3 = (w2.alloc (.cells #[.int .i64 a, .int .i64 b, .int .i64 c, .int .i64 d] 27)) := ⟨_, rfl⟩
  rw [← hw3] at HUA HRA HSZ g3 g3f a0 a1 a2 a3 ⊢
  clear hw3
  have m2 : w2.heap.size < w3.heap.size := by have := HSZ.out; omega
  have m0 : w.heap.size < w3.heap.size := by omega
  have m1 : w.heap.size + 1 < w3.heap.size := by omega
  go_region_held3 (fun w' => w'.cell? ⟨w2.heap.size, 0, none⟩ = some (.int .i64 a) ∧ w'.cell? ⟨w2.heap.size, 1, none⟩ = some (.int .i64 b) ∧ w'.cell? ⟨w2.heap.size, 2, none⟩ = some (.int .i64 c) ∧ w'.cell? ⟨w2.heap.size, 3, none⟩ = some (.int .i64 d))
      (simp (maxDischargeDepth := 9) [go_sem, *])
      (first
      | (go_at_call 33; refine (rd_area (w.heap.size + 1 + 1) A len cap _ ?_).mono ?_; (focus (first | exact HRA.out | exact HRA.out.keep (fun _ _ _ => rfl) (fun _ _ _ => rfl))); rintro e w4 ⟨a', b', c', d', rfl, hr, hu⟩; have HU4 : Hid (Below w.heap.size w3 w4) := Below.trans (by go_grown) (hu.2.2.2.mono (by omega)); obtain ⟨uc, uf, uz, ub⟩ := hu; (try simp only [World.size_drew] at uc uf uz); have g4 : ∀ bq oq, bq < w.heap.size + 2 → w4.cell? ⟨bq, oq, none⟩ = (((w.alloc (.cells #[.int .i64 0, .int .i64 0, .int .i64 0, .int .i64 0] 27)).alloc (.cells #[.int .i64 0, .int .i64 0, .int .i64 0, .int .i64 0] 27)).alloc (.cells #[.slice A len cap, .int .i64 0] 59)).cell? ⟨bq, oq, none⟩ := fun bq oq hq => (uc bq oq (by omega) (by omega)).trans (g3 bq oq hq); have g4f : ∀ bq oq, bq < w.heap.size + 2 → w4.frozen? ⟨bq, oq, none⟩ = (((w.alloc (.cells #[.int .i64 0, .int .i64 0, .int .i64 0, .int .i64 0] 27)).alloc (.cells #[.int .i64 0, .int .i64 0, .int .i64 0, .int .i64 0] 27)).alloc (.cells #[.slice A len cap, .int .i64 0] 59)).frozen? ⟨bq, oq, none⟩ := fun bq oq hq => (uf bq oq (by omega) (by omega)).trans (g3f bq oq hq); have e0 := (uc w2.heap.size 0 (by omega) (by omega)).trans a0; have e1 := (uc w2.heap.size 1 (by omega) (by omega)).trans a1; have e2 := (uc w2.heap.size 2 (by omega) (by omega)).trans a2; have e3 := (uc w2.heap.size 3 (by omega) (by omega)).trans a3; clear hr ub uc uf))
  all_goals go_wp2_with fail
  all_goals
    refine bodyPost_ret (v := .tuple #[.agg #[.int .i64 a, .int .i64 b, .int .i64 c, .int .i64 d], .agg #[.int .i64 a', .int .i64 b', .int .i64 c', .int .i64 d']]) ?_ rfl ⟨a, b, c, d, a', b', c', d', rfl, ?_⟩
    · simp (maxDischargeDepth := 9) [results, Try.results11, go_sem, *]
    · have hk := HUA.out.trans HU4.out
      go_grown
end Go.Proofs.Ytagmmlipaihilaa
