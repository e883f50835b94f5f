import Derived.Test.YtanjlpgdmnapdaaDkB
import Derived.Test.YtanjlpgdmnapdaaGa
import Derived.Test.YtanjlpgdmnapdaaGb
namespace Go.Proofs.Ytanjlpgdmnapdaa
open Go.RowKit Go.Maps
set_option linter.unusedSimpArgs false
set_option linter.unusedVariables false

set_option maxRecDepth 100000 in
set_option maxHeartbeats 16000000 in
theorem spec_l13Copy {v : Value} {d : DK} (w : World) (h : DkRow w v d) (hl : DkLil d) :
    Calls Try.prog 63 #[v] w fun e w' => ∃ v1 v2 v3, e = .returned (.agg #[v1, v2, v3]) ∧ (w'.ownsRow (w.heap.size + 2) 75 2 v1 d.live.length (flat fiL d.live) ∧ w'.ownsRow (w.heap.size + 2) 75 2 v2 d.safe.length (flat fiL d.safe) ∧ w'.ownsRow (w.heap.size + 2) 36 4 v3 d.ops.length (flat dpL d.ops)) ∧ Below w.heap.size w w' := by
  have HR : Hid (DkRow w v d) := h
  have HL : Hid (DkLil d) := hl
  obtain ⟨A1, c1, A2, c2, A3, c3, rfl, r1, r2, r3, z1, z2, z3⟩ := h
  have HR1 : Hid (FiRow w A1 d.live) := r1
  have HR2 : Hid (FiRow w A2 d.safe) := r2
  have HR3 : Hid (DpRow w A3 d.ops) := r3
  have HZ1 : Hid (A1 = none → c1 = 0) := z1
  have HZ2 : Hid (A2 = none → c2 = 0) := z2
  have HZ3 : Hid (A3 = none → c3 = 0) := z3
  obtain ⟨n1, HN1⟩ : ∃ n1, Hid (d.live.length = n1) := ⟨_, rfl⟩
  obtain ⟨n2, HN2⟩ : ∃ n2, Hid (d.safe.length = n2) := ⟨_, rfl⟩
  obtain ⟨n3, HN3⟩ : ∃ n3, Hid (d.ops.length = n3) := ⟨_, rfl⟩
  have hn1 : n1 ≤ 1048576 := by rw [← HN1.out]; exact hl.n1
  have hn2 : n2 ≤ 1048576 := by rw [← HN2.out]; exact hl.n2
  have hn3 : n3 ≤ 1048576 := by rw [← HN3.out]; exact hl.n3
  rw [HN1.out, HN2.out, HN3.out] at HR ⊢
  clear r1 r2 r3 z1 z2 z3 hl
  obtain ⟨w1, HW1⟩ : ∃ w1, Hid (((w.alloc (.cells #[.slice A1 n1 c1, .slice A2 n2 c2, .slice A3 n3 c3] 27)).alloc (.cells #[.slice none 0 0, .slice none 0 0, .slice none 0 0] 27)) = w1) := ⟨_, rfl⟩
  have HB1 : Hid (Below w.heap.size w w1) := by rw [← HW1.out]; show Below _ _ _; go_grown
  have z1 : w1.heap.size = w.heap.size + 2 := by rw [← HW1.out]; simp
  have k0 : w1.cell? ⟨w.heap.size, 0, none⟩ = some (.slice A1 n1 c1) := by rw [← HW1.out]; go_simp
  have k1 : w1.cell? ⟨w.heap.size, 1, none⟩ = some (.slice A2 n2 c2) := by rw [← HW1.out]; go_simp
  have k2 : w1.cell? ⟨w.heap.size, 2, none⟩ = some (.slice A3 n3 c3) := by rw [← HW1.out]; go_simp
  have p0 : w1.cell? ⟨w.heap.size + 1, 0, none⟩ = some (.slice none 0 0) := by rw [← HW1.out]; go_simp
  have p1 : w1.cell? ⟨w.heap.size + 1, 1, none⟩ = some (.slice none 0 0) := by rw [← HW1.out]; go_simp
  have p2 : w1.cell? ⟨w.heap.size + 1, 2, none⟩ = some (.slice none 0 0) := by rw [← HW1.out]; go_simp
  have pf : ∀ o, w1.frozen? ⟨w.heap.size + 1, o, none⟩ = false := fun o => by rw [← HW1.out]; go_simp
  have HZ : Hid (w1.heap.size = w.heap.size + 2) := z1
  have hl1 : w.heap.size < w1.heap.size := by omega
  have hl2 : w.heap.size + 1 < w1.heap.size := by omega
  clear z1
  go_enter Try.func63, Try.ntmps63
  go_wp2_with fail
  rw [HW1.out]
  refine wp_region_held_drew (S := (fun w' => (∀ bq oq, bq < w.heap.size + 1 → w'.cell? ⟨bq, oq, none⟩ = w1.cell? ⟨bq, oq, none⟩) ∧ w.heap.size + 1 ≤ w'.heap.size ∧ Below (w.heap.size + 1) w1 w')) (by kernel_rfl) (sc_of (by omega) (by go_grown)) (fun hHeld => ?_)
  refine wpAnyH_take (i := 1) (v := ?_) rfl (by kernel_rfl) (by kernel_rfl) (by kernel_rfl) (fun _ _ _ h => h) (Or.inl ⟨by rfl, ?_⟩) (by assumption) ?_
  rotate_left
  · (intro wq hSw; (try dsimp only at hSw); go_simp <;> with_reducible rfl)
  try simp only [Act.put, List.getElem_toArray, List.getElem_cons_zero, List.getElem_cons_succ, List.setIfInBounds_toArray, List.set_cons_zero, List.set_cons_succ]
  refine wpAnyH_take (i := 2) (v := ?_) rfl (by kernel_rfl) (by kernel_rfl) (by kernel_rfl) (fun _ _ _ h => h) (Or.inl ⟨by rfl, ?_⟩) (by assumption) ?_
  rotate_left
  · (intro wq hSw; (try dsimp only at hSw); go_simp <;> with_reducible rfl)
  try simp only [Act.put, List.getElem_toArray, List.getElem_cons_zero, List.getElem_cons_succ, List.setIfInBounds_toArray, List.set_cons_zero, List.set_cons_succ]
  refine wpAnyH_take (i := 5) (v := ?_) rfl (by kernel_rfl) (by kernel_rfl) (by kernel_rfl) (fun _ _ _ h => h) (Or.inl ⟨by rfl, ?_⟩) (by assumption) ?_
  rotate_left
  · (intro wq hSw; (try dsimp only at hSw); go_simp <;> with_reducible rfl)
  try simp only [Act.put, List.getElem_toArray, List.getElem_cons_zero, List.getElem_cons_succ, List.setIfInBounds_toArray, List.set_cons_zero, List.set_cons_succ]
  refine wpAnyH_take (i := 6) (v := ?_) rfl (by kernel_rfl) (by kernel_rfl) (by kernel_rfl) (fun _ _ _ h => h) (Or.inl ⟨by rfl, ?_⟩) (by assumption) ?_
  rotate_left
  · (intro wq hSw; (try dsimp only at hSw); go_simp <;> with_reducible rfl)
  try simp only [Act.put, List.getElem_toArray, List.getElem_cons_zero, List.getElem_cons_succ, List.setIfInBounds_toArray, List.set_cons_zero, List.set_cons_succ]
  refine wpAnyH_take (i := 9) (v := ?_) rfl (by kernel_rfl) (by kernel_rfl) (by kernel_rfl) (fun _ _ _ h => h) (Or.inl ⟨by rfl, ?_⟩) (by assumption) ?_
  rotate_left
  · (intro wq hSw; (try dsimp only at hSw); go_simp <;> with_reducible rfl)
  try simp only [Act.put, List.getElem_toArray, List.getElem_cons_zero, List.getElem_cons_succ, List.setIfInBounds_toArray, List.set_cons_zero, List.set_cons_succ]
  refine wpAnyH_take (i := 10) (v := ?_) rfl (by kernel_rfl) (by kernel_rfl) (by kernel_rfl) (fun _ _ _ h => h) (Or.inl ⟨by rfl, ?_⟩) (by assumption) ?_
  rotate_left
  · (intro wq hSw; (try dsimp only at hSw); go_simp <;> with_reducible rfl)
  try simp only [Act.put, List.getElem_toArray, List.getElem_cons_zero, List.getElem_cons_succ, List.setIfInBounds_toArray, List.set_cons_zero, List.set_cons_succ]
  refine wpAnyH_ready (rs := [0, 4, 8]) (by kernel_rfl) (by simp) (AllReadyH.cons rfl (fun Kq hKq => ?_) (AllReadyH.cons rfl (fun Kq hKq => ?_) (AllReadyH.cons rfl (fun Kq hKq => ?_) (AllReadyH.nil))))
  · go_simp
    refine hKq.out _ _ ?_ (fun hHeld => ?_)
    · exact sc_of (by omega) (by go_grown)
    clear hKq Kq
    try simp only [Act.put, List.getElem_toArray, List.getElem_cons_zero, List.getElem_cons_succ, List.setIfInBounds_toArray, List.set_cons_zero, List.set_cons_succ]
    refine wpAnyH_ready (rs := [3, 4, 8]) (by kernel_rfl) (by simp) (AllReadyH.cons rfl (fun Kq hKq => ?_) (AllReadyH.cons rfl (fun Kq hKq => ?_) (AllReadyH.cons rfl (fun Kq hKq => ?_) (AllReadyH.nil))))
    · refine step_copy4_fi (by rfl) _ _ (by rfl) w1.heap.size _ ?b2 ?b3 (by rfl) (by rfl) HN1.out HZ1.out ?b4 (by omega) ?_
      case b2 => first | (simp; done) | omega | (simp; omega)
      case b3 => first | (refine blk_at ?_; simp; done) | (refine block_old (blk_at ?_); simp; done) | (refine block_old (block_old (blk_at ?_)); simp; done)
      case b4 => exact HR1.out.below (Below.trans HB1.out (Below.mono (B := w1.heap.size) (by go_grown) HB1.out.size))
      intro A0' e0 v0 hO0 hw0
      have HO0 : Hid (v0.ownsRow w1.heap.size 75 2 (.slice A0' n1 e0) n1 (flat fiL d.live)) := hO0
      have hq0 := fun q o (hh : _ = some o) => (hw0.block q (Array.getElem?_eq_some_iff.1 hh).1).trans hh
      have hk0 : Below w1.heap.size w1 v0 := Below.trans (by go_grown) (hw0.mono (by first | (simp; done) | (simp; omega) | go_size))
      have hs0 := hk0.size
      have hkk0 : Below (w.heap.size + 1) w1 v0 := hk0.mono (by omega)
      clear hO0 hw0
      refine hKq.out _ _ ?_ (fun hHeld => ?_)
      · exact sc_of (by omega) (by go_grown)
      clear hKq Kq
      try simp only [Act.put, List.getElem_toArray, List.getElem_cons_zero, List.getElem_cons_succ, List.setIfInBounds_toArray, List.set_cons_zero, List.set_cons_succ]
      refine wpAnyH_ready (rs := [4, 8]) (by kernel_rfl) (by simp) (AllReadyH.cons rfl (fun Kq hKq => ?_) (AllReadyH.cons rfl (fun Kq hKq => ?_) (AllReadyH.nil)))
      · go_simp
        refine hKq.out _ _ ?_ (fun hHeld => ?_)
        · exact sc_of (by omega) (by go_grown)
        clear hKq Kq
        try simp only [Act.put, List.getElem_toArray, List.getElem_cons_zero, List.getElem_cons_succ, List.setIfInBounds_toArray, List.set_cons_zero, List.set_cons_succ]
        refine wpAnyH_ready (rs := [7, 8]) (by kernel_rfl) (by simp) (AllReadyH.cons rfl (fun Kq hKq => ?_) (AllReadyH.cons rfl (fun Kq hKq => ?_) (AllReadyH.nil)))
        · refine step_copy4_fi (by rfl) _ _ (by rfl) w1.heap.size _ ?b2 ?b3 (by rfl) (by rfl) HN2.out HZ2.out ?b4 (by omega) ?_
          case b2 => first | (simp; done) | omega | (simp; omega)
          case b3 => first | (refine blk_at ?_; simp; done) | (refine block_old (blk_at ?_); simp; done) | (refine block_old (block_old (blk_at ?_)); simp; done) | (refine hq0 _ _ ?_; (first | (refine blk_at ?_; simp; done) | (refine block_old (blk_at ?_); simp; done) | (refine block_old (block_old (blk_at ?_)); simp; done))) | (refine block_old ?_; (refine hq0 _ _ ?_; (first | (refine blk_at ?_; simp; done) | (refine block_old (blk_at ?_); simp; done) | (refine block_old (block_old (blk_at ?_)); simp; done)))) | (refine block_old (block_old ?_); (refine hq0 _ _ ?_; (first | (refine blk_at ?_; simp; done) | (refine block_old (blk_at ?_); simp; done) | (refine block_old (block_old (blk_at ?_)); simp; done))))
          case b4 => exact HR2.out.below (Below.trans HB1.out (Below.mono (B := w1.heap.size) (by go_grown) HB1.out.size))
          intro A1' e1 v1 hO1 hw1
          have HO1 : Hid (v1.ownsRow w1.heap.size 75 2 (.slice A1' n2 e1) n2 (flat fiL d.safe)) := hO1
          have hq1 := fun q o (hh : _ = some o) => (hw1.block q (Array.getElem?_eq_some_iff.1 hh).1).trans hh
          have hk1 : Below w1.heap.size w1 v1 := Below.trans (by go_grown) (hw1.mono (by first | (simp; done) | (simp; omega) | go_size))
          have hs1 := hk1.size
          have hkk1 : Below (w.heap.size + 1) w1 v1 := hk1.mono (by omega)
          have HO0_1 : Hid (v1.ownsRow w1.heap.size 75 2 (.slice A0' n1 e0) n1 (flat fiL d.live)) := own_below (own_below HO0.out (by go_grown)) hw1
          clear hO1 hw1
          refine hKq.out _ _ ?_ (fun hHeld => ?_)
          · exact sc_of (by omega) (by go_grown)
          clear hKq Kq
          try simp only [Act.put, List.getElem_toArray, List.getElem_cons_zero, List.getElem_cons_succ, List.setIfInBounds_toArray, List.set_cons_zero, List.set_cons_succ]
          refine wpAnyH_ready (rs := [8]) (by kernel_rfl) (by simp) (AllReadyH.cons rfl (fun Kq hKq => ?_) (AllReadyH.nil))
          go_simp
          refine hKq.out _ _ ?_ (fun hHeld => ?_)
          · exact sc_of (by omega) (by go_grown)
          clear hKq Kq
          try simp only [Act.put, List.getElem_toArray, List.getElem_cons_zero, List.getElem_cons_succ, List.setIfInBounds_toArray, List.set_cons_zero, List.set_cons_succ]
          refine wpAnyH_ready (rs := [11]) (by kernel_rfl) (by simp) (AllReadyH.cons rfl (fun Kq hKq => ?_) (AllReadyH.nil))
          refine step_copy4_dp (by rfl) _ _ (by rfl) w1.heap.size _ ?b2 ?b3 (by rfl) (by rfl) HN3.out HZ3.out ?b4 (by omega) ?_
          case b2 => first | (simp; done) | omega | (simp; omega)
          case b3 => first | (refine blk_at ?_; simp; done) | (refine block_old (blk_at ?_); simp; done) | (refine block_old (block_old (blk_at ?_)); simp; done) | (refine hq1 _ _ ?_; (first | (refine blk_at ?_; simp; done) | (refine block_old (blk_at ?_); simp; done) | (refine block_old (block_old (blk_at ?_)); simp; done) | (refine hq0 _ _ ?_; (first | (refine blk_at ?_; simp; done) | (refine block_old (blk_at ?_); simp; done) | (refine block_old (block_old (blk_at ?_)); simp; done))) | (refine block_old ?_; (refine hq0 _ _ ?_; (first | (refine blk_at ?_; simp; done) | (refine block_old (blk_at ?_); simp; done) | (refine block_old (block_old (blk_at ?_)); simp; done)))) | (refine block_old (block_old ?_); (refine hq0 _ _ ?_; (first | (refine blk_at ?_; simp; done) | (refine block_old (blk_at ?_); simp; done) | (refine block_old (block_old (blk_at ?_)); simp; done)))))) | (refine block_old ?_; (refine hq1 _ _ ?_; (first | (refine blk_at ?_; simp; done) | (refine block_old (blk_at ?_); simp; done) | (refine block_old (block_old (blk_at ?_)); simp; done) | (refine hq0 _ _ ?_; (first | (refine blk_at ?_; simp; done) | (refine block_old (blk_at ?_); simp; done) | (refine block_old (block_old (blk_at ?_)); simp; done))) | (refine block_old ?_; (refine hq0 _ _ ?_; (first | (refine blk_at ?_; simp; done) | (refine block_old (blk_at ?_); simp; done) | (refine block_old (block_old (blk_at ?_)); simp; done)))) | (refine block_old (block_old ?_); (refine hq0 _ _ ?_; (first | (refine blk_at ?_; simp; done) | (refine block_old (blk_at ?_); simp; done) | (refine block_old (block_old (blk_at ?_)); simp; done))))))) | (refine block_old (block_old ?_); (refine hq1 _ _ ?_; (first | (refine blk_at ?_; simp; done) | (refine block_old (blk_at ?_); simp; done) | (refine block_old (block_old (blk_at ?_)); simp; done) | (refine hq0 _ _ ?_; (first | (refine blk_at ?_; simp; done) | (refine block_old (blk_at ?_); simp; done) | (refine block_old (block_old (blk_at ?_)); simp; done))) | (refine block_old ?_; (refine hq0 _ _ ?_; (first | (refine blk_at ?_; simp; done) | (refine block_old (blk_at ?_); simp; done) | (refine block_old (block_old (blk_at ?_)); simp; done)))) | (refine block_old (block_old ?_); (refine hq0 _ _ ?_; (first | (refine blk_at ?_; simp; done) | (refine block_old (blk_at ?_); simp; done) | (refine block_old (block_old (blk_at ?_)); simp; done)))))))
          case b4 => exact HR3.out.below (Below.trans HB1.out (Below.mono (B := w1.heap.size) (by go_grown) HB1.out.size))
          intro A2' e2 v2 hO2 hw2
          have HO2 : Hid (v2.ownsRow w1.heap.size 36 4 (.slice A2' n3 e2) n3 (flat dpL d.ops)) := hO2
          have hq2 := fun q o (hh : _ = some o) => (hw2.block q (Array.getElem?_eq_some_iff.1 hh).1).trans hh
          have hk2 : Below w1.heap.size w1 v2 := Below.trans (by go_grown) (hw2.mono (by first | (simp; done) | (simp; omega) | go_size))
          have hs2 := hk2.size
          have hkk2 : Below (w.heap.size + 1) w1 v2 := hk2.mono (by omega)
          have HO0_2 : Hid (v2.ownsRow w1.heap.size 75 2 (.slice A0' n1 e0) n1 (flat fiL d.live)) := own_below (own_below HO0_1.out (by go_grown)) hw2
          have HO1_2 : Hid (v2.ownsRow w1.heap.size 75 2 (.slice A1' n2 e1) n2 (flat fiL d.safe)) := own_below (own_below HO1.out (by go_grown)) hw2
          clear hO2 hw2
          refine hKq.out _ _ ?_ (fun hHeld => ?_)
          · exact sc_of (by omega) (by go_grown)
          clear hKq Kq
          try simp only [Act.put, List.getElem_toArray, List.getElem_cons_zero, List.getElem_cons_succ, List.setIfInBounds_toArray, List.set_cons_zero, List.set_cons_succ]
          have pp0 : v2.cell? ⟨w.heap.size + 1, 0, none⟩ = some (.slice none 0 0) := (hk2.cell (p := ⟨w.heap.size + 1, 0, none⟩) hl2).trans p0
          have pp1 : v2.cell? ⟨w.heap.size + 1, 1, none⟩ = some (.slice none 0 0) := (hk2.cell (p := ⟨w.heap.size + 1, 1, none⟩) hl2).trans p1
          have pp2 : v2.cell? ⟨w.heap.size + 1, 2, none⟩ = some (.slice none 0 0) := (hk2.cell (p := ⟨w.heap.size + 1, 2, none⟩) hl2).trans p2
          have ppf : ∀ o, v2.frozen? ⟨w.heap.size + 1, o, none⟩ = false := fun o => (hk2.frozen (p := ⟨w.heap.size + 1, o, none⟩) hl2).trans (pf o)
          have mm : w.heap.size + 1 < v2.heap.size := by omega
          refine wpAnyH_take (i := 12) (v := ?_) rfl (by kernel_rfl) (by kernel_rfl) (by kernel_rfl) (fun _ _ _ h => h) (Or.inl ⟨by rfl, ?_⟩) (by assumption) ?_
          rotate_left
          · (intro wq hSw; (try dsimp only at hSw); go_simp <;> with_reducible rfl)
          try simp only [Act.put, List.getElem_toArray, List.getElem_cons_zero, List.getElem_cons_succ, List.setIfInBounds_toArray, List.set_cons_zero, List.set_cons_succ]
          refine wpAnyH_ready (rs := [13]) (by kernel_rfl) (by simp) (AllReadyH.cons rfl (fun Kq hKq => ?_) AllReadyH.nil)
          go_simp
          refine hKq.out _ _ ?_ (fun hHeld => ?_)
          · exact sc_of (by omega) (by go_grown)
          clear hKq Kq
          try simp only [Act.put, List.getElem_toArray, List.getElem_cons_zero, List.getElem_cons_succ, List.setIfInBounds_toArray, List.set_cons_zero, List.set_cons_succ]
          refine wpAnyH_done (by kernel_rfl) ?_ _
          clear hHeld
          go_wp2_with fail
          refine bodyPost_ret (v := .agg #[(.slice A0' n1 e0), (.slice A1' n2 e1), (.slice A2' n3 e2)]) ?_ rfl ⟨_, _, _, rfl, ?_, ?_⟩
          · simp (maxDischargeDepth := 9) [results, Try.results63, go_sem, *]
          · exact ⟨own_mono (ownSet (ownSet (ownSet HO0_2.out hl2 _ _) hl2 _ _) hl2 _ _) (Nat.le_of_eq HZ.out.symm), own_mono (ownSet (ownSet (ownSet HO1_2.out hl2 _ _) hl2 _ _) hl2 _ _) (Nat.le_of_eq HZ.out.symm), own_mono (ownSet (ownSet (ownSet HO2.out hl2 _ _) hl2 _ _) hl2 _ _) (Nat.le_of_eq HZ.out.symm)⟩
          · exact ((Below.setCell (Below.trans HB1.out (hk2.mono HB1.out.size)) (by show w.heap.size ≤ w.heap.size + 1; omega) _).setCell (by show w.heap.size ≤ w.heap.size + 1; omega) _).setCell (by show w.heap.size ≤ w.heap.size + 1; omega) _
        · go_simp
          refine hKq.out _ _ ?_ (fun hHeld => ?_)
          · exact sc_of (by omega) (by go_grown)
          clear hKq Kq
          try simp only [Act.put, List.getElem_toArray, List.getElem_cons_zero, List.getElem_cons_succ, List.setIfInBounds_toArray, List.set_cons_zero, List.set_cons_succ]
          refine wpAnyH_ready (rs := [7]) (by kernel_rfl) (by simp) (AllReadyH.cons rfl (fun Kq hKq => ?_) (AllReadyH.nil))
          refine step_copy4_fi (by rfl) _ _ (by rfl) w1.heap.size _ ?b2 ?b3 (by rfl) (by rfl) HN2.out HZ2.out ?b4 (by omega) ?_
          case b2 => first | (simp; done) | omega | (simp; omega)
          case b3 => first | (refine blk_at ?_; simp; done) | (refine block_old (blk_at ?_); simp; done) | (refine block_old (block_old (blk_at ?_)); simp; done) | (refine hq0 _ _ ?_; (first | (refine blk_at ?_; simp; done) | (refine block_old (blk_at ?_); simp; done) | (refine block_old (block_old (blk_at ?_)); simp; done))) | (refine block_old ?_; (refine hq0 _ _ ?_; (first | (refine blk_at ?_; simp; done) | (refine block_old (blk_at ?_); simp; done) | (refine block_old (block_old (blk_at ?_)); simp; done)))) | (refine block_old (block_old ?_); (refine hq0 _ _ ?_; (first | (refine blk_at ?_; simp; done) | (refine block_old (blk_at ?_); simp; done) | (refine block_old (block_old (blk_at ?_)); simp; done))))
          case b4 => exact HR2.out.below (Below.trans HB1.out (Below.mono (B := w1.heap.size) (by go_grown) HB1.out.size))
          intro A1' e1 v1 hO1 hw1
          have HO1 : Hid (v1.ownsRow w1.heap.size 75 2 (.slice A1' n2 e1) n2 (flat fiL d.safe)) := hO1
          have hq1 := fun q o (hh : _ = some o) => (hw1.block q (Array.getElem?_eq_some_iff.1 hh).1).trans hh
          have hk1 : Below w1.heap.size w1 v1 := Below.trans (by go_grown) (hw1.mono (by first | (simp; done) | (simp; omega) | go_size))
          have hs1 := hk1.size
          have hkk1 : Below (w.heap.size + 1) w1 v1 := hk1.mono (by omega)
          have HO0_1 : Hid (v1.ownsRow w1.heap.size 75 2 (.slice A0' n1 e0) n1 (flat fiL d.live)) := own_below (own_below HO0.out (by go_grown)) hw1
          clear hO1 hw1
          refine hKq.out _ _ ?_ (fun hHeld => ?_)
          · exact sc_of (by omega) (by go_grown)
          clear hKq Kq
          try simp only [Act.put, List.getElem_toArray, List.getElem_cons_zero, List.getElem_cons_succ, List.setIfInBounds_toArray, List.set_cons_zero, List.set_cons_succ]
          refine wpAnyH_ready (rs := [11]) (by kernel_rfl) (by simp) (AllReadyH.cons rfl (fun Kq hKq => ?_) (AllReadyH.nil))
          refine step_copy4_dp (by rfl) _ _ (by rfl) w1.heap.size _ ?b2 ?b3 (by rfl) (by rfl) HN3.out HZ3.out ?b4 (by omega) ?_
          case b2 => first | (simp; done) | omega | (simp; omega)
          case b3 => first | (refine blk_at ?_; simp; done) | (refine block_old (blk_at ?_); simp; done) | (refine block_old (block_old (blk_at ?_)); simp; done) | (refine hq1 _ _ ?_; (first | (refine blk_at ?_; simp; done) | (refine block_old (blk_at ?_); simp; done) | (refine block_old (block_old (blk_at ?_)); simp; done) | (refine hq0 _ _ ?_; (first | (refine blk_at ?_; simp; done) | (refine block_old (blk_at ?_); simp; done) | (refine block_old (block_old (blk_at ?_)); simp; done))) | (refine block_old ?_; (refine hq0 _ _ ?_; (first | (refine blk_at ?_; simp; done) | (refine block_old (blk_at ?_); simp; done) | (refine block_old (block_old (blk_at ?_)); simp; done)))) | (refine block_old (block_old ?_); (refine hq0 _ _ ?_; (first | (refine blk_at ?_; simp; done) | (refine block_old (blk_at ?_); simp; done) | (refine block_old (block_old (blk_at ?_)); simp; done)))))) | (refine block_old ?_; (refine hq1 _ _ ?_; (first | (refine blk_at ?_; simp; done) | (refine block_old (blk_at ?_); simp; done) | (refine block_old (block_old (blk_at ?_)); simp; done) | (refine hq0 _ _ ?_; (first | (refine blk_at ?_; simp; done) | (refine block_old (blk_at ?_); simp; done) | (refine block_old (block_old (blk_at ?_)); simp; done))) | (refine block_old ?_; (refine hq0 _ _ ?_; (first | (refine blk_at ?_; simp; done) | (refine block_old (blk_at ?_); simp; done) | (refine block_old (block_old (blk_at ?_)); simp; done)))) | (refine block_old (block_old ?_); (refine hq0 _ _ ?_; (first | (refine blk_at ?_; simp; done) | (refine block_old (blk_at ?_); simp; done) | (refine block_old (block_old (blk_at ?_)); simp; done))))))) | (refine block_old (block_old ?_); (refine hq1 _ _ ?_; (first | (refine blk_at ?_; simp; done) | (refine block_old (blk_at ?_); simp; done) | (refine block_old (block_old (blk_at ?_)); simp; done) | (refine hq0 _ _ ?_; (first | (refine blk_at ?_; simp; done) | (refine block_old (blk_at ?_); simp; done) | (refine block_old (block_old (blk_at ?_)); simp; done))) | (refine block_old ?_; (refine hq0 _ _ ?_; (first | (refine blk_at ?_; simp; done) | (refine block_old (blk_at ?_); simp; done) | (refine block_old (block_old (blk_at ?_)); simp; done)))) | (refine block_old (block_old ?_); (refine hq0 _ _ ?_; (first | (refine blk_at ?_; simp; done) | (refine block_old (blk_at ?_); simp; done) | (refine block_old (block_old (blk_at ?_)); simp; done)))))))
          case b4 => exact HR3.out.below (Below.trans HB1.out (Below.mono (B := w1.heap.size) (by go_grown) HB1.out.size))
          intro A2' e2 v2 hO2 hw2
          have HO2 : Hid (v2.ownsRow w1.heap.size 36 4 (.slice A2' n3 e2) n3 (flat dpL d.ops)) := hO2
          have hq2 := fun q o (hh : _ = some o) => (hw2.block q (Array.getElem?_eq_some_iff.1 hh).1).trans hh
          have hk2 : Below w1.heap.size w1 v2 := Below.trans (by go_grown) (hw2.mono (by first | (simp; done) | (simp; omega) | go_size))
          have hs2 := hk2.size
          have hkk2 : Below (w.heap.size + 1) w1 v2 := hk2.mono (by omega)
          have HO0_2 : Hid (v2.ownsRow w1.heap.size 75 2 (.slice A0' n1 e0) n1 (flat fiL d.live)) := own_below (own_below HO0_1.out (by go_grown)) hw2
          have HO1_2 : Hid (v2.ownsRow w1.heap.size 75 2 (.slice A1' n2 e1) n2 (flat fiL d.safe)) := own_below (own_below HO1.out (by go_grown)) hw2
          clear hO2 hw2
          refine hKq.out _ _ ?_ (fun hHeld => ?_)
          · exact sc_of (by omega) (by go_grown)
          clear hKq Kq
          try simp only [Act.put, List.getElem_toArray, List.getElem_cons_zero, List.getElem_cons_succ, List.setIfInBounds_toArray, List.set_cons_zero, List.set_cons_succ]
          have pp0 : v2.cell? ⟨w.heap.size + 1, 0, none⟩ = some (.slice none 0 0) := (hk2.cell (p := ⟨w.heap.size + 1, 0, none⟩) hl2).trans p0
          have pp1 : v2.cell? ⟨w.heap.size + 1, 1, none⟩ = some (.slice none 0 0) := (hk2.cell (p := ⟨w.heap.size + 1, 1, none⟩) hl2).trans p1
          have pp2 : v2.cell? ⟨w.heap.size + 1, 2, none⟩ = some (.slice none 0 0) := (hk2.cell (p := ⟨w.heap.size + 1, 2, none⟩) hl2).trans p2
          have ppf : ∀ o, v2.frozen? ⟨w.heap.size + 1, o, none⟩ = false := fun o => (hk2.frozen (p := ⟨w.heap.size + 1, o, none⟩) hl2).trans (pf o)
          have mm : w.heap.size + 1 < v2.heap.size := by omega
          refine wpAnyH_take (i := 12) (v := ?_) rfl (by kernel_rfl) (by kernel_rfl) (by kernel_rfl) (fun _ _ _ h => h) (Or.inl ⟨by rfl, ?_⟩) (by assumption) ?_
          rotate_left
          · (intro wq hSw; (try dsimp only at hSw); go_simp <;> with_reducible rfl)
          try simp only [Act.put, List.getElem_toArray, List.getElem_cons_zero, List.getElem_cons_succ, List.setIfInBounds_toArray, List.set_cons_zero, List.set_cons_succ]
          refine wpAnyH_ready (rs := [13]) (by kernel_rfl) (by simp) (AllReadyH.cons rfl (fun Kq hKq => ?_) AllReadyH.nil)
          go_simp
          refine hKq.out _ _ ?_ (fun hHeld => ?_)
          · exact sc_of (by omega) (by go_grown)
          clear hKq Kq
          try simp only [Act.put, List.getElem_toArray, List.getElem_cons_zero, List.getElem_cons_succ, List.setIfInBounds_toArray, List.set_cons_zero, List.set_cons_succ]
          refine wpAnyH_done (by kernel_rfl) ?_ _
          clear hHeld
          go_wp2_with fail
          refine bodyPost_ret (v := .agg #[(.slice A0' n1 e0), (.slice A1' n2 e1), (.slice A2' n3 e2)]) ?_ rfl ⟨_, _, _, rfl, ?_, ?_⟩
          · simp (maxDischargeDepth := 9) [results, Try.results63, go_sem, *]
          · exact ⟨own_mono (ownSet (ownSet (ownSet HO0_2.out hl2 _ _) hl2 _ _) hl2 _ _) (Nat.le_of_eq HZ.out.symm), own_mono (ownSet (ownSet (ownSet HO1_2.out hl2 _ _) hl2 _ _) hl2 _ _) (Nat.le_of_eq HZ.out.symm), own_mono (ownSet (ownSet (ownSet HO2.out hl2 _ _) hl2 _ _) hl2 _ _) (Nat.le_of_eq HZ.out.symm)⟩
          · exact ((Below.setCell (Below.trans HB1.out (hk2.mono HB1.out.size)) (by show w.heap.size ≤ w.heap.size + 1; omega) _).setCell (by show w.heap.size ≤ w.heap.size + 1; omega) _).setCell (by show w.heap.size ≤ w.heap.size + 1; omega) _
      · go_simp
        refine hKq.out _ _ ?_ (fun hHeld => ?_)
        · exact sc_of (by omega) (by go_grown)
        clear hKq Kq
        try simp only [Act.put, List.getElem_toArray, List.getElem_cons_zero, List.getElem_cons_succ, List.setIfInBounds_toArray, List.set_cons_zero, List.set_cons_succ]
        refine wpAnyH_ready (rs := [4]) (by kernel_rfl) (by simp) (AllReadyH.cons rfl (fun Kq hKq => ?_) (AllReadyH.nil))
        go_simp
        refine hKq.out _ _ ?_ (fun hHeld => ?_)
        · exact sc_of (by omega) (by go_grown)
        clear hKq Kq
        try simp only [Act.put, List.getElem_toArray, List.getElem_cons_zero, List.getElem_cons_succ, List.setIfInBounds_toArray, List.set_cons_zero, List.set_cons_succ]
        refine wpAnyH_ready (rs := [7]) (by kernel_rfl) (by simp) (AllReadyH.cons rfl (fun Kq hKq => ?_) (AllReadyH.nil))
        refine step_copy4_fi (by rfl) _ _ (by rfl) w1.heap.size _ ?b2 ?b3 (by rfl) (by rfl) HN2.out HZ2.out ?b4 (by omega) ?_
        case b2 => first | (simp; done) | omega | (simp; omega)
        case b3 => first | (refine blk_at ?_; simp; done) | (refine block_old (blk_at ?_); simp; done) | (refine block_old (block_old (blk_at ?_)); simp; done) | (refine hq0 _ _ ?_; (first | (refine blk_at ?_; simp; done) | (refine block_old (blk_at ?_); simp; done) | (refine block_old (block_old (blk_at ?_)); simp; done))) | (refine block_old ?_; (refine hq0 _ _ ?_; (first | (refine blk_at ?_; simp; done) | (refine block_old (blk_at ?_); simp; done) | (refine block_old (block_old (blk_at ?_)); simp; done)))) | (refine block_old (block_old ?_); (refine hq0 _ _ ?_; (first | (refine blk_at ?_; simp; done) | (refine block_old (blk_at ?_); simp; done) | (refine block_old (block_old (blk_at ?_)); simp; done))))
        case b4 => exact HR2.out.below (Below.trans HB1.out (Below.mono (B := w1.heap.size) (by go_grown) HB1.out.size))
        intro A1' e1 v1 hO1 hw1
        have HO1 : Hid (v1.ownsRow w1.heap.size 75 2 (.slice A1' n2 e1) n2 (flat fiL d.safe)) := hO1
        have hq1 := fun q o (hh : _ = some o) => (hw1.block q (Array.getElem?_eq_some_iff.1 hh).1).trans hh
        have hk1 : Below w1.heap.size w1 v1 := Below.trans (by go_grown) (hw1.mono (by first | (simp; done) | (simp; omega) | go_size))
        have hs1 := hk1.size
        have hkk1 : Below (w.heap.size + 1) w1 v1 := hk1.mono (by omega)
        have HO0_1 : Hid (v1.ownsRow w1.heap.size 75 2 (.slice A0' n1 e0) n1 (flat fiL d.live)) := own_below (own_below HO0.out (by go_grown)) hw1
        clear hO1 hw1
        refine hKq.out _ _ ?_ (fun hHeld => ?_)
        · exact sc_of (by omega) (by go_grown)
        clear hKq Kq
        try simp only [Act.put, List.getElem_toArray, List.getElem_cons_zero, List.getElem_cons_succ, List.setIfInBounds_toArray, List.set_cons_zero, List.set_cons_succ]
        refine wpAnyH_ready (rs := [11]) (by kernel_rfl) (by simp) (AllReadyH.cons rfl (fun Kq hKq => ?_) (AllReadyH.nil))
        refine step_copy4_dp (by rfl) _ _ (by rfl) w1.heap.size _ ?b2 ?b3 (by rfl) (by rfl) HN3.out HZ3.out ?b4 (by omega) ?_
        case b2 => first | (simp; done) | omega | (simp; omega)
        case b3 => first | (refine blk_at ?_; simp; done) | (refine block_old (blk_at ?_); simp; done) | (refine block_old (block_old (blk_at ?_)); simp; done) | (refine hq1 _ _ ?_; (first | (refine blk_at ?_; simp; done) | (refine block_old (blk_at ?_); simp; done) | (refine block_old (block_old (blk_at ?_)); simp; done) | (refine hq0 _ _ ?_; (first | (refine blk_at ?_; simp; done) | (refine block_old (blk_at ?_); simp; done) | (refine block_old (block_old (blk_at ?_)); simp; done))) | (refine block_old ?_; (refine hq0 _ _ ?_; (first | (refine blk_at ?_; simp; done) | (refine block_old (blk_at ?_); simp; done) | (refine block_old (block_old (blk_at ?_)); simp; done)))) | (refine block_old (block_old ?_); (refine hq0 _ _ ?_; (first | (refine blk_at ?_; simp; done) | (refine block_old (blk_at ?_); simp; done) | (refine block_old (block_old (blk_at ?_)); simp; done)))))) | (refine block_old ?_; (refine hq1 _ _ ?_; (first | (refine blk_at ?_; simp; done) | (refine block_old (blk_at ?_); simp; done) | (refine block_old (block_old (blk_at ?_)); simp; done) | (refine hq0 _ _ ?_; (first | (refine blk_at ?_; simp; done) | (refine block_old (blk_at ?_); simp; done) | (refine block_old (block_old (blk_at ?_)); simp; done))) | (refine block_old ?_; (refine hq0 _ _ ?_; (first | (refine blk_at ?_; simp; done) | (refine block_old (blk_at ?_); simp; done) | (refine block_old (block_old (blk_at ?_)); simp; done)))) | (refine block_old (block_old ?_); (refine hq0 _ _ ?_; (first | (refine blk_at ?_; simp; done) | (refine block_old (blk_at ?_); simp; done) | (refine block_old (block_old (blk_at ?_)); simp; done))))))) | (refine block_old (block_old ?_); (refine hq1 _ _ ?_; (first | (refine blk_at ?_; simp; done) | (refine block_old (blk_at ?_); simp; done) | (refine block_old (block_old (blk_at ?_)); simp; done) | (refine hq0 _ _ ?_; (first | (refine blk_at ?_; simp; done) | (refine block_old (blk_at ?_); simp; done) | (refine block_old (block_old (blk_at ?_)); simp; done))) | (refine block_old ?_; (refine hq0 _ _ ?_; (first | (refine blk_at ?_; simp; done) | (refine block_old (blk_at ?_); simp; done) | (refine block_old (block_old (blk_at ?_)); simp; done)))) | (refine block_old (block_old ?_); (refine hq0 _ _ ?_; (first | (refine blk_at ?_; simp; done) | (refine block_old (blk_at ?_); simp; done) | (refine block_old (block_old (blk_at ?_)); simp; done)))))))
        case b4 => exact HR3.out.below (Below.trans HB1.out (Below.mono (B := w1.heap.size) (by go_grown) HB1.out.size))
        intro A2' e2 v2 hO2 hw2
        have HO2 : Hid (v2.ownsRow w1.heap.size 36 4 (.slice A2' n3 e2) n3 (flat dpL d.ops)) := hO2
        have hq2 := fun q o (hh : _ = some o) => (hw2.block q (Array.getElem?_eq_some_iff.1 hh).1).trans hh
        have hk2 : Below w1.heap.size w1 v2 := Below.trans (by go_grown) (hw2.mono (by first | (simp; done) | (simp; omega) | go_size))
        have hs2 := hk2.size
        have hkk2 : Below (w.heap.size + 1) w1 v2 := hk2.mono (by omega)
        have HO0_2 : Hid (v2.ownsRow w1.heap.size 75 2 (.slice A0' n1 e0) n1 (flat fiL d.live)) := own_below (own_below HO0_1.out (by go_grown)) hw2
        have HO1_2 : Hid (v2.ownsRow w1.heap.size 75 2 (.slice A1' n2 e1) n2 (flat fiL d.safe)) := own_below (own_below HO1.out (by go_grown)) hw2
        clear hO2 hw2
        refine hKq.out _ _ ?_ (fun hHeld => ?_)
        · exact sc_of (by omega) (by go_grown)
        clear hKq Kq
        try simp only [Act.put, List.getElem_toArray, List.getElem_cons_zero, List.getElem_cons_succ, List.setIfInBounds_toArray, List.set_cons_zero, List.set_cons_succ]
        have pp0 : v2.cell? ⟨w.heap.size + 1, 0, none⟩ = some (.slice none 0 0) := (hk2.cell (p := ⟨w.heap.size + 1, 0, none⟩) hl2).trans p0
        have pp1 : v2.cell? ⟨w.heap.size + 1, 1, none⟩ = some (.slice none 0 0) := (hk2.cell (p := ⟨w.heap.size + 1, 1, none⟩) hl2).trans p1
        have pp2 : v2.cell? ⟨w.heap.size + 1, 2, none⟩ = some (.slice none 0 0) := (hk2.cell (p := ⟨w.heap.size + 1, 2, none⟩) hl2).trans p2
        have ppf : ∀ o, v2.frozen? ⟨w.heap.size + 1, o, none⟩ = false := fun o => (hk2.frozen (p := ⟨w.heap.size + 1, o, none⟩) hl2).trans (pf o)
        have mm : w.heap.size + 1 < v2.heap.size := by omega
        refine wpAnyH_take (i := 12) (v := ?_) rfl (by kernel_rfl) (by kernel_rfl) (by kernel_rfl) (fun _ _ _ h => h) (Or.inl ⟨by rfl, ?_⟩) (by assumption) ?_
        rotate_left
        · (intro wq hSw; (try dsimp only at hSw); go_simp <;> with_reducible rfl)
        try simp only [Act.put, List.getElem_toArray, List.getElem_cons_zero, List.getElem_cons_succ, List.setIfInBounds_toArray, List.set_cons_zero, List.set_cons_succ]
        refine wpAnyH_ready (rs := [13]) (by kernel_rfl) (by simp) (AllReadyH.cons rfl (fun Kq hKq => ?_) AllReadyH.nil)
        go_simp
        refine hKq.out _ _ ?_ (fun hHeld => ?_)
        · exact sc_of (by omega) (by go_grown)
        clear hKq Kq
        try simp only [Act.put, List.getElem_toArray, List.getElem_cons_zero, List.getElem_cons_succ, List.setIfInBounds_toArray, List.set_cons_zero, List.set_cons_succ]
        refine wpAnyH_done (by kernel_rfl) ?_ _
        clear hHeld
        go_wp2_with fail
        refine bodyPost_ret (v := .agg #[(.slice A0' n1 e0), (.slice A1' n2 e1), (.slice A2' n3 e2)]) ?_ rfl ⟨_, _, _, rfl, ?_, ?_⟩
        · simp (maxDischargeDepth := 9) [results, Try.results63, go_sem, *]
        · exact ⟨own_mono (ownSet (ownSet (ownSet HO0_2.out hl2 _ _) hl2 _ _) hl2 _ _) (Nat.le_of_eq HZ.out.symm), own_mono (ownSet (ownSet (ownSet HO1_2.out hl2 _ _) hl2 _ _) hl2 _ _) (Nat.le_of_eq HZ.out.symm), own_mono (ownSet (ownSet (ownSet HO2.out hl2 _ _) hl2 _ _) hl2 _ _) (Nat.le_of_eq HZ.out.symm)⟩
        · exact ((Below.setCell (Below.trans HB1.out (hk2.mono HB1.out.size)) (by show w.heap.size ≤ w.heap.size + 1; omega) _).setCell (by show w.heap.size ≤ w.heap.size + 1; omega) _).setCell (by show w.heap.size ≤ w.heap.size + 1; omega) _
    · go_simp
      refine hKq.out _ _ ?_ (fun hHeld => ?_)
      · exact sc_of (by omega) (by go_grown)
      clear hKq Kq
      try simp only [Act.put, List.getElem_toArray, List.getElem_cons_zero, List.getElem_cons_succ, List.setIfInBounds_toArray, List.set_cons_zero, List.set_cons_succ]
      refine wpAnyH_ready (rs := [3, 8]) (by kernel_rfl) (by simp) (AllReadyH.cons rfl (fun Kq hKq => ?_) (AllReadyH.cons rfl (fun Kq hKq => ?_) (AllReadyH.nil)))
      · refine step_copy4_fi (by rfl) _ _ (by rfl) w1.heap.size _ ?b2 ?b3 (by rfl) (by rfl) HN1.out HZ1.out ?b4 (by omega) ?_
        case b2 => first | (simp; done) | omega | (simp; omega)
        case b3 => first | (refine blk_at ?_; simp; done) | (refine block_old (blk_at ?_); simp; done) | (refine block_old (block_old (blk_at ?_)); simp; done)
        case b4 => exact HR1.out.below (Below.trans HB1.out (Below.mono (B := w1.heap.size) (by go_grown) HB1.out.size))
        intro A0' e0 v0 hO0 hw0
        have HO0 : Hid (v0.ownsRow w1.heap.size 75 2 (.slice A0' n1 e0) n1 (flat fiL d.live)) := hO0
        have hq0 := fun q o (hh : _ = some o) => (hw0.block q (Array.getElem?_eq_some_iff.1 hh).1).trans hh
        have hk0 : Below w1.heap.size w1 v0 := Below.trans (by go_grown) (hw0.mono (by first | (simp; done) | (simp; omega) | go_size))
        have hs0 := hk0.size
        have hkk0 : Below (w.heap.size + 1) w1 v0 := hk0.mono (by omega)
        clear hO0 hw0
        refine hKq.out _ _ ?_ (fun hHeld => ?_)
        · exact sc_of (by omega) (by go_grown)
        clear hKq Kq
        try simp only [Act.put, List.getElem_toArray, List.getElem_cons_zero, List.getElem_cons_succ, List.setIfInBounds_toArray, List.set_cons_zero, List.set_cons_succ]
        refine wpAnyH_ready (rs := [7, 8]) (by kernel_rfl) (by simp) (AllReadyH.cons rfl (fun Kq hKq => ?_) (AllReadyH.cons rfl (fun Kq hKq => ?_) (AllReadyH.nil)))
        · refine step_copy4_fi (by rfl) _ _ (by rfl) w1.heap.size _ ?b2 ?b3 (by rfl) (by rfl) HN2.out HZ2.out ?b4 (by omega) ?_
          case b2 => first | (simp; done) | omega | (simp; omega)
          case b3 => first | (refine blk_at ?_; simp; done) | (refine block_old (blk_at ?_); simp; done) | (refine block_old (block_old (blk_at ?_)); simp; done) | (refine hq0 _ _ ?_; (first | (refine blk_at ?_; simp; done) | (refine block_old (blk_at ?_); simp; done) | (refine block_old (block_old (blk_at ?_)); simp; done))) | (refine block_old ?_; (refine hq0 _ _ ?_; (first | (refine blk_at ?_; simp; done) | (refine block_old (blk_at ?_); simp; done) | (refine block_old (block_old (blk_at ?_)); simp; done)))) | (refine block_old (block_old ?_); (refine hq0 _ _ ?_; (first | (refine blk_at ?_; simp; done) | (refine block_old (blk_at ?_); simp; done) | (refine block_old (block_old (blk_at ?_)); simp; done))))
          case b4 => exact HR2.out.below (Below.trans HB1.out (Below.mono (B := w1.heap.size) (by go_grown) HB1.out.size))
          intro A1' e1 v1 hO1 hw1
          have HO1 : Hid (v1.ownsRow w1.heap.size 75 2 (.slice A1' n2 e1) n2 (flat fiL d.safe)) := hO1
          have hq1 := fun q o (hh : _ = some o) => (hw1.block q (Array.getElem?_eq_some_iff.1 hh).1).trans hh
          have hk1 : Below w1.heap.size w1 v1 := Below.trans (by go_grown) (hw1.mono (by first | (simp; done) | (simp; omega) | go_size))
          have hs1 := hk1.size
          have hkk1 : Below (w.heap.size + 1) w1 v1 := hk1.mono (by omega)
          have HO0_1 : Hid (v1.ownsRow w1.heap.size 75 2 (.slice A0' n1 e0) n1 (flat fiL d.live)) := own_below (own_below HO0.out (by go_grown)) hw1
          clear hO1 hw1
          refine hKq.out _ _ ?_ (fun hHeld => ?_)
          · exact sc_of (by omega) (by go_grown)
          clear hKq Kq
          try simp only [Act.put, List.getElem_toArray, List.getElem_cons_zero, List.getElem_cons_succ, List.setIfInBounds_toArray, List.set_cons_zero, List.set_cons_succ]
          refine wpAnyH_ready (rs := [8]) (by kernel_rfl) (by simp) (AllReadyH.cons rfl (fun Kq hKq => ?_) (AllReadyH.nil))
          go_simp
          refine hKq.out _ _ ?_ (fun hHeld => ?_)
          · exact sc_of (by omega) (by go_grown)
          clear hKq Kq
          try simp only [Act.put, List.getElem_toArray, List.getElem_cons_zero, List.getElem_cons_succ, List.setIfInBounds_toArray, List.set_cons_zero, List.set_cons_succ]
          refine wpAnyH_ready (rs := [11]) (by kernel_rfl) (by simp) (AllReadyH.cons rfl (fun Kq hKq => ?_) (AllReadyH.nil))
          refine step_copy4_dp (by rfl) _ _ (by rfl) w1.heap.size _ ?b2 ?b3 (by rfl) (by rfl) HN3.out HZ3.out ?b4 (by omega) ?_
          case b2 => first | (simp; done) | omega | (simp; omega)
          case b3 => first | (refine blk_at ?_; simp; done) | (refine block_old (blk_at ?_); simp; done) | (refine block_old (block_old (blk_at ?_)); simp; done) | (refine hq1 _ _ ?_; (first | (refine blk_at ?_; simp; done) | (refine block_old (blk_at ?_); simp; done) | (refine block_old (block_old (blk_at ?_)); simp; done) | (refine hq0 _ _ ?_; (first | (refine blk_at ?_; simp; done) | (refine block_old (blk_at ?_); simp; done) | (refine block_old (block_old (blk_at ?_)); simp; done))) | (refine block_old ?_; (refine hq0 _ _ ?_; (first | (refine blk_at ?_; simp; done) | (refine block_old (blk_at ?_); simp; done) | (refine block_old (block_old (blk_at ?_)); simp; done)))) | (refine block_old (block_old ?_); (refine hq0 _ _ ?_; (first | (refine blk_at ?_; simp; done) | (refine block_old (blk_at ?_); simp; done) | (refine block_old (block_old (blk_at ?_)); simp; done)))))) | (refine block_old ?_; (refine hq1 _ _ ?_; (first | (refine blk_at ?_; simp; done) | (refine block_old (blk_at ?_); simp; done) | (refine block_old (block_old (blk_at ?_)); simp; done) | (refine hq0 _ _ ?_; (first | (refine blk_at ?_; simp; done) | (refine block_old (blk_at ?_); simp; done) | (refine block_old (block_old (blk_at ?_)); simp; done))) | (refine block_old ?_; (refine hq0 _ _ ?_; (first | (refine blk_at ?_; simp; done) | (refine block_old (blk_at ?_); simp; done) | (refine block_old (block_old (blk_at ?_)); simp; done)))) | (refine block_old (block_old ?_); (refine hq0 _ _ ?_; (first | (refine blk_at ?_; simp; done) | (refine block_old (blk_at ?_); simp; done) | (refine block_old (block_old (blk_at ?_)); simp; done))))))) | (refine block_old (block_old ?_); (refine hq1 _ _ ?_; (first | (refine blk_at ?_; simp; done) | (refine block_old (blk_at ?_); simp; done) | (refine block_old (block_old (blk_at ?_)); simp; done) | (refine hq0 _ _ ?_; (first | (refine blk_at ?_; simp; done) | (refine block_old (blk_at ?_); simp; done) | (refine block_old (block_old (blk_at ?_)); simp; done))) | (refine block_old ?_; (refine hq0 _ _ ?_; (first | (refine blk_at ?_; simp; done) | (refine block_old (blk_at ?_); simp; done) | (refine block_old (block_old (blk_at ?_)); simp; done)))) | (refine block_old (block_old ?_); (refine hq0 _ _ ?_; (first | (refine blk_at ?_; simp; done) | (refine block_old (blk_at ?_); simp; done) | (refine block_old (block_old (blk_at ?_)); simp; done)))))))
          case b4 => exact HR3.out.below (Below.trans HB1.out (Below.mono (B := w1.heap.size) (by go_grown) HB1.out.size))
          intro A2' e2 v2 hO2 hw2
          have HO2 : Hid (v2.ownsRow w1.heap.size 36 4 (.slice A2' n3 e2) n3 (flat dpL d.ops)) := hO2
          have hq2 := fun q o (hh : _ = some o) => (hw2.block q (Array.getElem?_eq_some_iff.1 hh).1).trans hh
          have hk2 : Below w1.heap.size w1 v2 := Below.trans (by go_grown) (hw2.mono (by first | (simp; done) | (simp; omega) | go_size))
          have hs2 := hk2.size
          have hkk2 : Below (w.heap.size + 1) w1 v2 := hk2.mono (by omega)
          have HO0_2 : Hid (v2.ownsRow w1.heap.size 75 2 (.slice A0' n1 e0) n1 (flat fiL d.live)) := own_below (own_below HO0_1.out (by go_grown)) hw2
          have HO1_2 : Hid (v2.ownsRow w1.heap.size 75 2 (.slice A1' n2 e1) n2 (flat fiL d.safe)) := own_below (own_below HO1.out (by go_grown)) hw2
          clear hO2 hw2
          refine hKq.out _ _ ?_ (fun hHeld => ?_)
          · exact sc_of (by omega) (by go_grown)
          clear hKq Kq
          try simp only [Act.put, List.getElem_toArray, List.getElem_cons_zero, List.getElem_cons_succ, List.setIfInBounds_toArray, List.set_cons_zero, List.set_cons_succ]
          have pp0 : v2.cell? ⟨w.heap.size + 1, 0, none⟩ = some (.slice none 0 0) := (hk2.cell (p := ⟨w.heap.size + 1, 0, none⟩) hl2).trans p0
          have pp1 : v2.cell? ⟨w.heap.size + 1, 1, none⟩ = some (.slice none 0 0) := (hk2.cell (p := ⟨w.heap.size + 1, 1, none⟩) hl2).trans p1
          have pp2 : v2.cell? ⟨w.heap.size + 1, 2, none⟩ = some (.slice none 0 0) := (hk2.cell (p := ⟨w.heap.size + 1, 2, none⟩) hl2).trans p2
          have ppf : ∀ o, v2.frozen? ⟨w.heap.size + 1, o, none⟩ = false := fun o => (hk2.frozen (p := ⟨w.heap.size + 1, o, none⟩) hl2).trans (pf o)
          have mm : w.heap.size + 1 < v2.heap.size := by omega
          refine wpAnyH_take (i := 12) (v := ?_) rfl (by kernel_rfl) (by kernel_rfl) (by kernel_rfl) (fun _ _ _ h => h) (Or.inl ⟨by rfl, ?_⟩) (by assumption) ?_
          rotate_left
          · (intro wq hSw; (try dsimp only at hSw); go_simp <;> with_reducible rfl)
          try simp only [Act.put, List.getElem_toArray, List.getElem_cons_zero, List.getElem_cons_succ, List.setIfInBounds_toArray, List.set_cons_zero, List.set_cons_succ]
          refine wpAnyH_ready (rs := [13]) (by kernel_rfl) (by simp) (AllReadyH.cons rfl (fun Kq hKq => ?_) AllReadyH.nil)
          go_simp
          refine hKq.out _ _ ?_ (fun hHeld => ?_)
          · exact sc_of (by omega) (by go_grown)
          clear hKq Kq
          try simp only [Act.put, List.getElem_toArray, List.getElem_cons_zero, List.getElem_cons_succ, List.setIfInBounds_toArray, List.set_cons_zero, List.set_cons_succ]
          refine wpAnyH_done (by kernel_rfl) ?_ _
          clear hHeld
          go_wp2_with fail
          refine bodyPost_ret (v := .agg #[(.slice A0' n1 e0), (.slice A1' n2 e1), (.slice A2' n3 e2)]) ?_ rfl ⟨_, _, _, rfl, ?_, ?_⟩
          · simp (maxDischargeDepth := 9) [results, Try.results63, go_sem, *]
          · exact ⟨own_mono (ownSet (ownSet (ownSet HO0_2.out hl2 _ _) hl2 _ _) hl2 _ _) (Nat.le_of_eq HZ.out.symm), own_mono (ownSet (ownSet (ownSet HO1_2.out hl2 _ _) hl2 _ _) hl2 _ _) (Nat.le_of_eq HZ.out.symm), own_mono (ownSet (ownSet (ownSet HO2.out hl2 _ _) hl2 _ _) hl2 _ _) (Nat.le_of_eq HZ.out.symm)⟩
          · exact ((Below.setCell (Below.trans HB1.out (hk2.mono HB1.out.size)) (by show w.heap.size ≤ w.heap.size + 1; omega) _).setCell (by show w.heap.size ≤ w.heap.size + 1; omega) _).setCell (by show w.heap.size ≤ w.heap.size + 1; omega) _
        · go_simp
          refine hKq.out _ _ ?_ (fun hHeld => ?_)
          · exact sc_of (by omega) (by go_grown)
          clear hKq Kq
          try simp only [Act.put, List.getElem_toArray, List.getElem_cons_zero, List.getElem_cons_succ, List.setIfInBounds_toArray, List.set_cons_zero, List.set_cons_succ]
          refine wpAnyH_ready (rs := [7]) (by kernel_rfl) (by simp) (AllReadyH.cons rfl (fun Kq hKq => ?_) (AllReadyH.nil))
          refine step_copy4_fi (by rfl) _ _ (by rfl) w1.heap.size _ ?b2 ?b3 (by rfl) (by rfl) HN2.out HZ2.out ?b4 (by omega) ?_
          case b2 => first | (simp; done) | omega | (simp; omega)
          case b3 => first | (refine blk_at ?_; simp; done) | (refine block_old (blk_at ?_); simp; done) | (refine block_old (block_old (blk_at ?_)); simp; done) | (refine hq0 _ _ ?_; (first | (refine blk_at ?_; simp; done) | (refine block_old (blk_at ?_); simp; done) | (refine block_old (block_old (blk_at ?_)); simp; done))) | (refine block_old ?_; (refine hq0 _ _ ?_; (first | (refine blk_at ?_; simp; done) | (refine block_old (blk_at ?_); simp; done) | (refine block_old (block_old (blk_at ?_)); simp; done)))) | (refine block_old (block_old ?_); (refine hq0 _ _ ?_; (first | (refine blk_at ?_; simp; done) | (refine block_old (blk_at ?_); simp; done) | (refine block_old (block_old (blk_at ?_)); simp; done))))
          case b4 => exact HR2.out.below (Below.trans HB1.out (Below.mono (B := w1.heap.size) (by go_grown) HB1.out.size))
          intro A1' e1 v1 hO1 hw1
          have HO1 : Hid (v1.ownsRow w1.heap.size 75 2 (.slice A1' n2 e1) n2 (flat fiL d.safe)) := hO1
          have hq1 := fun q o (hh : _ = some o) => (hw1.block q (Array.getElem?_eq_some_iff.1 hh).1).trans hh
          have hk1 : Below w1.heap.size w1 v1 := Below.trans (by go_grown) (hw1.mono (by first | (simp; done) | (simp; omega) | go_size))
          have hs1 := hk1.size
          have hkk1 : Below (w.heap.size + 1) w1 v1 := hk1.mono (by omega)
          have HO0_1 : Hid (v1.ownsRow w1.heap.size 75 2 (.slice A0' n1 e0) n1 (flat fiL d.live)) := own_below (own_below HO0.out (by go_grown)) hw1
          clear hO1 hw1
          refine hKq.out _ _ ?_ (fun hHeld => ?_)
          · exact sc_of (by omega) (by go_grown)
          clear hKq Kq
          try simp only [Act.put, List.getElem_toArray, List.getElem_cons_zero, List.getElem_cons_succ, List.setIfInBounds_toArray, List.set_cons_zero, List.set_cons_succ]
          refine wpAnyH_ready (rs := [11]) (by kernel_rfl) (by simp) (AllReadyH.cons rfl (fun Kq hKq => ?_) (AllReadyH.nil))
          refine step_copy4_dp (by rfl) _ _ (by rfl) w1.heap.size _ ?b2 ?b3 (by rfl) (by rfl) HN3.out HZ3.out ?b4 (by omega) ?_
          case b2 => first | (simp; done) | omega | (simp; omega)
          case b3 => first | (refine blk_at ?_; simp; done) | (refine block_old (blk_at ?_); simp; done) | (refine block_old (block_old (blk_at ?_)); simp; done) | (refine hq1 _ _ ?_; (first | (refine blk_at ?_; simp; done) | (refine block_old (blk_at ?_); simp; done) | (refine block_old (block_old (blk_at ?_)); simp; done) | (refine hq0 _ _ ?_; (first | (refine blk_at ?_; simp; done) | (refine block_old (blk_at ?_); simp; done) | (refine block_old (block_old (blk_at ?_)); simp; done))) | (refine block_old ?_; (refine hq0 _ _ ?_; (first | (refine blk_at ?_; simp; done) | (refine block_old (blk_at ?_); simp; done) | (refine block_old (block_old (blk_at ?_)); simp; done)))) | (refine block_old (block_old ?_); (refine hq0 _ _ ?_; (first | (refine blk_at ?_; simp; done) | (refine block_old (blk_at ?_); simp; done) | (refine block_old (block_old (blk_at ?_)); simp; done)))))) | (refine block_old ?_; (refine hq1 _ _ ?_; (first | (refine blk_at ?_; simp; done) | (refine block_old (blk_at ?_); simp; done) | (refine block_old (block_old (blk_at ?_)); simp; done) | (refine hq0 _ _ ?_; (first | (refine blk_at ?_; simp; done) | (refine block_old (blk_at ?_); simp; done) | (refine block_old (block_old (blk_at ?_)); simp; done))) | (refine block_old ?_; (refine hq0 _ _ ?_; (first | (refine blk_at ?_; simp; done) | (refine block_old (blk_at ?_); simp; done) | (refine block_old (block_old (blk_at ?_)); simp; done)))) | (refine block_old (block_old ?_); (refine hq0 _ _ ?_; (first | (refine blk_at ?_; simp; done) | (refine block_old (blk_at ?_); simp; done) | (refine block_old (block_old (blk_at ?_)); simp; done))))))) | (refine block_old (block_old ?_); (refine hq1 _ _ ?_; (first | (refine blk_at ?_; simp; done) | (refine block_old (blk_at ?_); simp; done) | (refine block_old (block_old (blk_at ?_)); simp; done) | (refine hq0 _ _ ?_; (first | (refine blk_at ?_; simp; done) | (refine block_old (blk_at ?_); simp; done) | (refine block_old (block_old (blk_at ?_)); simp; done))) | (refine block_old ?_; (refine hq0 _ _ ?_; (first | (refine blk_at ?_; simp; done) | (refine block_old (blk_at ?_); simp; done) | (refine block_old (block_old (blk_at ?_)); simp; done)))) | (refine block_old (block_old ?_); (refine hq0 _ _ ?_; (first | (refine blk_at ?_; simp; done) | (refine block_old (blk_at ?_); simp; done) | (refine block_old (block_old (blk_at ?_)); simp; done)))))))
          case b4 => exact HR3.out.below (Below.trans HB1.out (Below.mono (B := w1.heap.size) (by go_grown) HB1.out.size))
          intro A2' e2 v2 hO2 hw2
          have HO2 : Hid (v2.ownsRow w1.heap.size 36 4 (.slice A2' n3 e2) n3 (flat dpL d.ops)) := hO2
          have hq2 := fun q o (hh : _ = some o) => (hw2.block q (Array.getElem?_eq_some_iff.1 hh).1).trans hh
          have hk2 : Below w1.heap.size w1 v2 := Below.trans (by go_grown) (hw2.mono (by first | (simp; done) | (simp; omega) | go_size))
          have hs2 := hk2.size
          have hkk2 : Below (w.heap.size + 1) w1 v2 := hk2.mono (by omega)
          have HO0_2 : Hid (v2.ownsRow w1.heap.size 75 2 (.slice A0' n1 e0) n1 (flat fiL d.live)) := own_below (own_below HO0_1.out (by go_grown)) hw2
          have HO1_2 : Hid (v2.ownsRow w1.heap.size 75 2 (.slice A1' n2 e1) n2 (flat fiL d.safe)) := own_below (own_below HO1.out (by go_grown)) hw2
          clear hO2 hw2
          refine hKq.out _ _ ?_ (fun hHeld => ?_)
          · exact sc_of (by omega) (by go_grown)
          clear hKq Kq
          try simp only [Act.put, List.getElem_toArray, List.getElem_cons_zero, List.getElem_cons_succ, List.setIfInBounds_toArray, List.set_cons_zero, List.set_cons_succ]
          have pp0 : v2.cell? ⟨w.heap.size + 1, 0, none⟩ = some (.slice none 0 0) := (hk2.cell (p := ⟨w.heap.size + 1, 0, none⟩) hl2).trans p0
          have pp1 : v2.cell? ⟨w.heap.size + 1, 1, none⟩ = some (.slice none 0 0) := (hk2.cell (p := ⟨w.heap.size + 1, 1, none⟩) hl2).trans p1
          have pp2 : v2.cell? ⟨w.heap.size + 1, 2, none⟩ = some (.slice none 0 0) := (hk2.cell (p := ⟨w.heap.size + 1, 2, none⟩) hl2).trans p2
          have ppf : ∀ o, v2.frozen? ⟨w.heap.size + 1, o, none⟩ = false := fun o => (hk2.frozen (p := ⟨w.heap.size + 1, o, none⟩) hl2).trans (pf o)
          have mm : w.heap.size + 1 < v2.heap.size := by omega
          refine wpAnyH_take (i := 12) (v := ?_) rfl (by kernel_rfl) (by kernel_rfl) (by kernel_rfl) (fun _ _ _ h => h) (Or.inl ⟨by rfl, ?_⟩) (by assumption) ?_
          rotate_left
          · (intro wq hSw; (try dsimp only at hSw); go_simp <;> with_reducible rfl)
          try simp only [Act.put, List.getElem_toArray, List.getElem_cons_zero, List.getElem_cons_succ, List.setIfInBounds_toArray, List.set_cons_zero, List.set_cons_succ]
          refine wpAnyH_ready (rs := [13]) (by kernel_rfl) (by simp) (AllReadyH.cons rfl (fun Kq hKq => ?_) AllReadyH.nil)
          go_simp
          refine hKq.out _ _ ?_ (fun hHeld => ?_)
          · exact sc_of (by omega) (by go_grown)
          clear hKq Kq
          try simp only [Act.put, List.getElem_toArray, List.getElem_cons_zero, List.getElem_cons_succ, List.setIfInBounds_toArray, List.set_cons_zero, List.set_cons_succ]
          refine wpAnyH_done (by kernel_rfl) ?_ _
          clear hHeld
          go_wp2_with fail
          refine bodyPost_ret (v := .agg #[(.slice A0' n1 e0), (.slice A1' n2 e1), (.slice A2' n3 e2)]) ?_ rfl ⟨_, _, _, rfl, ?_, ?_⟩
          · simp (maxDischargeDepth := 9) [results, Try.results63, go_sem, *]
          · exact ⟨own_mono (ownSet (ownSet (ownSet HO0_2.out hl2 _ _) hl2 _ _) hl2 _ _) (Nat.le_of_eq HZ.out.symm), own_mono (ownSet (ownSet (ownSet HO1_2.out hl2 _ _) hl2 _ _) hl2 _ _) (Nat.le_of_eq HZ.out.symm), own_mono (ownSet (ownSet (ownSet HO2.out hl2 _ _) hl2 _ _) hl2 _ _) (Nat.le_of_eq HZ.out.symm)⟩
          · exact ((Below.setCell (Below.trans HB1.out (hk2.mono HB1.out.size)) (by show w.heap.size ≤ w.heap.size + 1; omega) _).setCell (by show w.heap.size ≤ w.heap.size + 1; omega) _).setCell (by show w.heap.size ≤ w.heap.size + 1; omega) _
      · go_simp
        refine hKq.out _ _ ?_ (fun hHeld => ?_)
        · exact sc_of (by omega) (by go_grown)
        clear hKq Kq
        try simp only [Act.put, List.getElem_toArray, List.getElem_cons_zero, List.getElem_cons_succ, List.setIfInBounds_toArray, List.set_cons_zero, List.set_cons_succ]
        refine wpAnyH_ready (rs := [3]) (by kernel_rfl) (by simp) (AllReadyH.cons rfl (fun Kq hKq => ?_) (AllReadyH.nil))
        refine step_copy4_fi (by rfl) _ _ (by rfl) w1.heap.size _ ?b2 ?b3 (by rfl) (by rfl) HN1.out HZ1.out ?b4 (by omega) ?_
        case b2 => first | (simp; done) | omega | (simp; omega)
        case b3 => first | (refine blk_at ?_; simp; done) | (refine block_old (blk_at ?_); simp; done) | (refine block_old (block_old (blk_at ?_)); simp; done)
        case b4 => exact HR1.out.below (Below.trans HB1.out (Below.mono (B := w1.heap.size) (by go_grown) HB1.out.size))
        intro A0' e0 v0 hO0 hw0
        have HO0 : Hid (v0.ownsRow w1.heap.size 75 2 (.slice A0' n1 e0) n1 (flat fiL d.live)) := hO0
        have hq0 := fun q o (hh : _ = some o) => (hw0.block q (Array.getElem?_eq_some_iff.1 hh).1).trans hh
        have hk0 : Below w1.heap.size w1 v0 := Below.trans (by go_grown) (hw0.mono (by first | (simp; done) | (simp; omega) | go_size))
        have hs0 := hk0.size
        have hkk0 : Below (w.heap.size + 1) w1 v0 := hk0.mono (by omega)
        clear hO0 hw0
        refine hKq.out _ _ ?_ (fun hHeld => ?_)
        · exact sc_of (by omega) (by go_grown)
        clear hKq Kq
        try simp only [Act.put, List.getElem_toArray, List.getElem_cons_zero, List.getElem_cons_succ, List.setIfInBounds_toArray, List.set_cons_zero, List.set_cons_succ]
        refine wpAnyH_ready (rs := [7]) (by kernel_rfl) (by simp) (AllReadyH.cons rfl (fun Kq hKq => ?_) (AllReadyH.nil))
        refine step_copy4_fi (by rfl) _ _ (by rfl) w1.heap.size _ ?b2 ?b3 (by rfl) (by rfl) HN2.out HZ2.out ?b4 (by omega) ?_
        case b2 => first | (simp; done) | omega | (simp; omega)
        case b3 => first | (refine blk_at ?_; simp; done) | (refine block_old (blk_at ?_); simp; done) | (refine block_old (block_old (blk_at ?_)); simp; done) | (refine hq0 _ _ ?_; (first | (refine blk_at ?_; simp; done) | (refine block_old (blk_at ?_); simp; done) | (refine block_old (block_old (blk_at ?_)); simp; done))) | (refine block_old ?_; (refine hq0 _ _ ?_; (first | (refine blk_at ?_; simp; done) | (refine block_old (blk_at ?_); simp; done) | (refine block_old (block_old (blk_at ?_)); simp; done)))) | (refine block_old (block_old ?_); (refine hq0 _ _ ?_; (first | (refine blk_at ?_; simp; done) | (refine block_old (blk_at ?_); simp; done) | (refine block_old (block_old (blk_at ?_)); simp; done))))
        case b4 => exact HR2.out.below (Below.trans HB1.out (Below.mono (B := w1.heap.size) (by go_grown) HB1.out.size))
        intro A1' e1 v1 hO1 hw1
        have HO1 : Hid (v1.ownsRow w1.heap.size 75 2 (.slice A1' n2 e1) n2 (flat fiL d.safe)) := hO1
        have hq1 := fun q o (hh : _ = some o) => (hw1.block q (Array.getElem?_eq_some_iff.1 hh).1).trans hh
        have hk1 : Below w1.heap.size w1 v1 := Below.trans (by go_grown) (hw1.mono (by first | (simp; done) | (simp; omega) | go_size))
        have hs1 := hk1.size
        have hkk1 : Below (w.heap.size + 1) w1 v1 := hk1.mono (by omega)
        have HO0_1 : Hid (v1.ownsRow w1.heap.size 75 2 (.slice A0' n1 e0) n1 (flat fiL d.live)) := own_below (own_below HO0.out (by go_grown)) hw1
        clear hO1 hw1
        refine hKq.out _ _ ?_ (fun hHeld => ?_)
        · exact sc_of (by omega) (by go_grown)
        clear hKq Kq
        try simp only [Act.put, List.getElem_toArray, List.getElem_cons_zero, List.getElem_cons_succ, List.setIfInBounds_toArray, List.set_cons_zero, List.set_cons_succ]
        refine wpAnyH_ready (rs := [11]) (by kernel_rfl) (by simp) (AllReadyH.cons rfl (fun Kq hKq => ?_) (AllReadyH.nil))
        refine step_copy4_dp (by rfl) _ _ (by rfl) w1.heap.size _ ?b2 ?b3 (by rfl) (by rfl) HN3.out HZ3.out ?b4 (by omega) ?_
        case b2 => first | (simp; done) | omega | (simp; omega)
        case b3 => first | (refine blk_at ?_; simp; done) | (refine block_old (blk_at ?_); simp; done) | (refine block_old (block_old (blk_at ?_)); simp; done) | (refine hq1 _ _ ?_; (first | (refine blk_at ?_; simp; done) | (refine block_old (blk_at ?_); simp; done) | (refine block_old (block_old (blk_at ?_)); simp; done) | (refine hq0 _ _ ?_; (first | (refine blk_at ?_; simp; done) | (refine block_old (blk_at ?_); simp; done) | (refine block_old (block_old (blk_at ?_)); simp; done))) | (refine block_old ?_; (refine hq0 _ _ ?_; (first | (refine blk_at ?_; simp; done) | (refine block_old (blk_at ?_); simp; done) | (refine block_old (block_old (blk_at ?_)); simp; done)))) | (refine block_old (block_old ?_); (refine hq0 _ _ ?_; (first | (refine blk_at ?_; simp; done) | (refine block_old (blk_at ?_); simp; done) | (refine block_old (block_old (blk_at ?_)); simp; done)))))) | (refine block_old ?_; (refine hq1 _ _ ?_; (first | (refine blk_at ?_; simp; done) | (refine block_old (blk_at ?_); simp; done) | (refine block_old (block_old (blk_at ?_)); simp; done) | (refine hq0 _ _ ?_; (first | (refine blk_at ?_; simp; done) | (refine block_old (blk_at ?_); simp; done) | (refine block_old (block_old (blk_at ?_)); simp; done))) | (refine block_old ?_; (refine hq0 _ _ ?_; (first | (refine blk_at ?_; simp; done) | (refine block_old (blk_at ?_); simp; done) | (refine block_old (block_old (blk_at ?_)); simp; done)))) | (refine block_old (block_old ?_); (refine hq0 _ _ ?_; (first | (refine blk_at ?_; simp; done) | (refine block_old (blk_at ?_); simp; done) | (refine block_old (block_old (blk_at ?_)); simp; done))))))) | (refine block_old (block_old ?_); (refine hq1 _ _ ?_; (first | (refine blk_at ?_; simp; done) | (refine block_old (blk_at ?_); simp; done) | (refine block_old (block_old (blk_at ?_)); simp; done) | (refine hq0 _ _ ?_; (first | (refine blk_at ?_; simp; done) | (refine block_old (blk_at ?_); simp; done) | (refine block_old (block_old (blk_at ?_)); simp; done))) | (refine block_old ?_; (refine hq0 _ _ ?_; (first | (refine blk_at ?_; simp; done) | (refine block_old (blk_at ?_); simp; done) | (refine block_old (block_old (blk_at ?_)); simp; done)))) | (refine block_old (block_old ?_); (refine hq0 _ _ ?_; (first | (refine blk_at ?_; simp; done) | (refine block_old (blk_at ?_); simp; done) | (refine block_old (block_old (blk_at ?_)); simp; done)))))))
        case b4 => exact HR3.out.below (Below.trans HB1.out (Below.mono (B := w1.heap.size) (by go_grown) HB1.out.size))
        intro A2' e2 v2 hO2 hw2
        have HO2 : Hid (v2.ownsRow w1.heap.size 36 4 (.slice A2' n3 e2) n3 (flat dpL d.ops)) := hO2
        have hq2 := fun q o (hh : _ = some o) => (hw2.block q (Array.getElem?_eq_some_iff.1 hh).1).trans hh
        have hk2 : Below w1.heap.size w1 v2 := Below.trans (by go_grown) (hw2.mono (by first | (simp; done) | (simp; omega) | go_size))
        have hs2 := hk2.size
        have hkk2 : Below (w.heap.size + 1) w1 v2 := hk2.mono (by omega)
        have HO0_2 : Hid (v2.ownsRow w1.heap.size 75 2 (.slice A0' n1 e0) n1 (flat fiL d.live)) := own_below (own_below HO0_1.out (by go_grown)) hw2
        have HO1_2 : Hid (v2.ownsRow w1.heap.size 75 2 (.slice A1' n2 e1) n2 (flat fiL d.safe)) := own_below (own_below HO1.out (by go_grown)) hw2
        clear hO2 hw2
        refine hKq.out _ _ ?_ (fun hHeld => ?_)
        · exact sc_of (by omega) (by go_grown)
        clear hKq Kq
        try simp only [Act.put, List.getElem_toArray, List.getElem_cons_zero, List.getElem_cons_succ, List.setIfInBounds_toArray, List.set_cons_zero, List.set_cons_succ]
        have pp0 : v2.cell? ⟨w.heap.size + 1, 0, none⟩ = some (.slice none 0 0) := (hk2.cell (p := ⟨w.heap.size + 1, 0, none⟩) hl2).trans p0
        have pp1 : v2.cell? ⟨w.heap.size + 1, 1, none⟩ = some (.slice none 0 0) := (hk2.cell (p := ⟨w.heap.size + 1, 1, none⟩) hl2).trans p1
        have pp2 : v2.cell? ⟨w.heap.size + 1, 2, none⟩ = some (.slice none 0 0) := (hk2.cell (p := ⟨w.heap.size + 1, 2, none⟩) hl2).trans p2
        have ppf : ∀ o, v2.frozen? ⟨w.heap.size + 1, o, none⟩ = false := fun o => (hk2.frozen (p := ⟨w.heap.size + 1, o, none⟩) hl2).trans (pf o)
        have mm : w.heap.size + 1 < v2.heap.size := by omega
        refine wpAnyH_take (i := 12) (v := ?_) rfl (by kernel_rfl) (by kernel_rfl) (by kernel_rfl) (fun _ _ _ h => h) (Or.inl ⟨by rfl, ?_⟩) (by assumption) ?_
        rotate_left
        · (intro wq hSw; (try dsimp only at hSw); go_simp <;> with_reducible rfl)
        try simp only [Act.put, List.getElem_toArray, List.getElem_cons_zero, List.getElem_cons_succ, List.setIfInBounds_toArray, List.set_cons_zero, List.set_cons_succ]
        refine wpAnyH_ready (rs := [13]) (by kernel_rfl) (by simp) (AllReadyH.cons rfl (fun Kq hKq => ?_) AllReadyH.nil)
        go_simp
        refine hKq.out _ _ ?_ (fun hHeld => ?_)
        · exact sc_of (by omega) (by go_grown)
        clear hKq Kq
        try simp only [Act.put, List.getElem_toArray, List.getElem_cons_zero, List.getElem_cons_succ, List.setIfInBounds_toArray, List.set_cons_zero, List.set_cons_succ]
        refine wpAnyH_done (by kernel_rfl) ?_ _
        clear hHeld
        go_wp2_with fail
        refine bodyPost_ret (v := .agg #[(.slice A0' n1 e0), (.slice A1' n2 e1), (.slice A2' n3 e2)]) ?_ rfl ⟨_, _, _, rfl, ?_, ?_⟩
        · simp (maxDischargeDepth := 9) [results, Try.results63, go_sem, *]
        · exact ⟨own_mono (ownSet (ownSet (ownSet HO0_2.out hl2 _ _) hl2 _ _) hl2 _ _) (Nat.le_of_eq HZ.out.symm), own_mono (ownSet (ownSet (ownSet HO1_2.out hl2 _ _) hl2 _ _) hl2 _ _) (Nat.le_of_eq HZ.out.symm), own_mono (ownSet (ownSet (ownSet HO2.out hl2 _ _) hl2 _ _) hl2 _ _) (Nat.le_of_eq HZ.out.symm)⟩
        · exact ((Below.setCell (Below.trans HB1.out (hk2.mono HB1.out.size)) (by show w.heap.size ≤ w.heap.size + 1; omega) _).setCell (by show w.heap.size ≤ w.heap.size + 1; omega) _).setCell (by show w.heap.size ≤ w.heap.size + 1; omega) _
    · go_simp
      refine hKq.out _ _ ?_ (fun hHeld => ?_)
      · exact sc_of (by omega) (by go_grown)
      clear hKq Kq
      try simp only [Act.put, List.getElem_toArray, List.getElem_cons_zero, List.getElem_cons_succ, List.setIfInBounds_toArray, List.set_cons_zero, List.set_cons_succ]
      refine wpAnyH_ready (rs := [3, 4]) (by kernel_rfl) (by simp) (AllReadyH.cons rfl (fun Kq hKq => ?_) (AllReadyH.cons rfl (fun Kq hKq => ?_) (AllReadyH.nil)))
      · refine step_copy4_fi (by rfl) _ _ (by rfl) w1.heap.size _ ?b2 ?b3 (by rfl) (by rfl) HN1.out HZ1.out ?b4 (by omega) ?_
        case b2 => first | (simp; done) | omega | (simp; omega)
        case b3 => first | (refine blk_at ?_; simp; done) | (refine block_old (blk_at ?_); simp; done) | (refine block_old (block_old (blk_at ?_)); simp; done)
        case b4 => exact HR1.out.below (Below.trans HB1.out (Below.mono (B := w1.heap.size) (by go_grown) HB1.out.size))
        intro A0' e0 v0 hO0 hw0
        have HO0 : Hid (v0.ownsRow w1.heap.size 75 2 (.slice A0' n1 e0) n1 (flat fiL d.live)) := hO0
        have hq0 := fun q o (hh : _ = some o) => (hw0.block q (Array.getElem?_eq_some_iff.1 hh).1).trans hh
        have hk0 : Below w1.heap.size w1 v0 := Below.trans (by go_grown) (hw0.mono (by first | (simp; done) | (simp; omega) | go_size))
        have hs0 := hk0.size
        have hkk0 : Below (w.heap.size + 1) w1 v0 := hk0.mono (by omega)
        clear hO0 hw0
        refine hKq.out _ _ ?_ (fun hHeld => ?_)
        · exact sc_of (by omega) (by go_grown)
        clear hKq Kq
        try simp only [Act.put, List.getElem_toArray, List.getElem_cons_zero, List.getElem_cons_succ, List.setIfInBounds_toArray, List.set_cons_zero, List.set_cons_succ]
        refine wpAnyH_ready (rs := [4]) (by kernel_rfl) (by simp) (AllReadyH.cons rfl (fun Kq hKq => ?_) (AllReadyH.nil))
        go_simp
        refine hKq.out _ _ ?_ (fun hHeld => ?_)
        · exact sc_of (by omega) (by go_grown)
        clear hKq Kq
        try simp only [Act.put, List.getElem_toArray, List.getElem_cons_zero, List.getElem_cons_succ, List.setIfInBounds_toArray, List.set_cons_zero, List.set_cons_succ]
        refine wpAnyH_ready (rs := [7]) (by kernel_rfl) (by simp) (AllReadyH.cons rfl (fun Kq hKq => ?_) (AllReadyH.nil))
        refine step_copy4_fi (by rfl) _ _ (by rfl) w1.heap.size _ ?b2 ?b3 (by rfl) (by rfl) HN2.out HZ2.out ?b4 (by omega) ?_
        case b2 => first | (simp; done) | omega | (simp; omega)
        case b3 => first | (refine blk_at ?_; simp; done) | (refine block_old (blk_at ?_); simp; done) | (refine block_old (block_old (blk_at ?_)); simp; done) | (refine hq0 _ _ ?_; (first | (refine blk_at ?_; simp; done) | (refine block_old (blk_at ?_); simp; done) | (refine block_old (block_old (blk_at ?_)); simp; done))) | (refine block_old ?_; (refine hq0 _ _ ?_; (first | (refine blk_at ?_; simp; done) | (refine block_old (blk_at ?_); simp; done) | (refine block_old (block_old (blk_at ?_)); simp; done)))) | (refine block_old (block_old ?_); (refine hq0 _ _ ?_; (first | (refine blk_at ?_; simp; done) | (refine block_old (blk_at ?_); simp; done) | (refine block_old (block_old (blk_at ?_)); simp; done))))
        case b4 => exact HR2.out.below (Below.trans HB1.out (Below.mono (B := w1.heap.size) (by go_grown) HB1.out.size))
        intro A1' e1 v1 hO1 hw1
        have HO1 : Hid (v1.ownsRow w1.heap.size 75 2 (.slice A1' n2 e1) n2 (flat fiL d.safe)) := hO1
        have hq1 := fun q o (hh : _ = some o) => (hw1.block q (Array.getElem?_eq_some_iff.1 hh).1).trans hh
        have hk1 : Below w1.heap.size w1 v1 := Below.trans (by go_grown) (hw1.mono (by first | (simp; done) | (simp; omega) | go_size))
        have hs1 := hk1.size
        have hkk1 : Below (w.heap.size + 1) w1 v1 := hk1.mono (by omega)
        have HO0_1 : Hid (v1.ownsRow w1.heap.size 75 2 (.slice A0' n1 e0) n1 (flat fiL d.live)) := own_below (own_below HO0.out (by go_grown)) hw1
        clear hO1 hw1
        refine hKq.out _ _ ?_ (fun hHeld => ?_)
        · exact sc_of (by omega) (by go_grown)
        clear hKq Kq
        try simp only [Act.put, List.getElem_toArray, List.getElem_cons_zero, List.getElem_cons_succ, List.setIfInBounds_toArray, List.set_cons_zero, List.set_cons_succ]
        refine wpAnyH_ready (rs := [11]) (by kernel_rfl) (by simp) (AllReadyH.cons rfl (fun Kq hKq => ?_) (AllReadyH.nil))
        refine step_copy4_dp (by rfl) _ _ (by rfl) w1.heap.size _ ?b2 ?b3 (by rfl) (by rfl) HN3.out HZ3.out ?b4 (by omega) ?_
        case b2 => first | (simp; done) | omega | (simp; omega)
        case b3 => first | (refine blk_at ?_; simp; done) | (refine block_old (blk_at ?_); simp; done) | (refine block_old (block_old (blk_at ?_)); simp; done) | (refine hq1 _ _ ?_; (first | (refine blk_at ?_; simp; done) | (refine block_old (blk_at ?_); simp; done) | (refine block_old (block_old (blk_at ?_)); simp; done) | (refine hq0 _ _ ?_; (first | (refine blk_at ?_; simp; done) | (refine block_old (blk_at ?_); simp; done) | (refine block_old (block_old (blk_at ?_)); simp; done))) | (refine block_old ?_; (refine hq0 _ _ ?_; (first | (refine blk_at ?_; simp; done) | (refine block_old (blk_at ?_); simp; done) | (refine block_old (block_old (blk_at ?_)); simp; done)))) | (refine block_old (block_old ?_); (refine hq0 _ _ ?_; (first | (refine blk_at ?_; simp; done) | (refine block_old (blk_at ?_); simp; done) | (refine block_old (block_old (blk_at ?_)); simp; done)))))) | (refine block_old ?_; (refine hq1 _ _ ?_; (first | (refine blk_at ?_; simp; done) | (refine block_old (blk_at ?_); simp; done) | (refine block_old (block_old (blk_at ?_)); simp; done) | (refine hq0 _ _ ?_; (first | (refine blk_at ?_; simp; done) | (refine block_old (blk_at ?_); simp; done) | (refine block_old (block_old (blk_at ?_)); simp; done))) | (refine block_old ?_; (refine hq0 _ _ ?_; (first | (refine blk_at ?_; simp; done) | (refine block_old (blk_at ?_); simp; done) | (refine block_old (block_old (blk_at ?_)); simp; done)))) | (refine block_old (block_old ?_); (refine hq0 _ _ ?_; (first | (refine blk_at ?_; simp; done) | (refine block_old (blk_at ?_); simp; done) | (refine block_old (block_old (blk_at ?_)); simp; done))))))) | (refine block_old (block_old ?_); (refine hq1 _ _ ?_; (first | (refine blk_at ?_; simp; done) | (refine block_old (blk_at ?_); simp; done) | (refine block_old (block_old (blk_at ?_)); simp; done) | (refine hq0 _ _ ?_; (first | (refine blk_at ?_; simp; done) | (refine block_old (blk_at ?_); simp; done) | (refine block_old (block_old (blk_at ?_)); simp; done))) | (refine block_old ?_; (refine hq0 _ _ ?_; (first | (refine blk_at ?_; simp; done) | (refine block_old (blk_at ?_); simp; done) | (refine block_old (block_old (blk_at ?_)); simp; done)))) | (refine block_old (block_old ?_); (refine hq0 _ _ ?_; (first | (refine blk_at ?_; simp; done) | (refine block_old (blk_at ?_); simp; done) | (refine block_old (block_old (blk_at ?_)); simp; done)))))))
        case b4 => exact HR3.out.below (Below.trans HB1.out (Below.mono (B := w1.heap.size) (by go_grown) HB1.out.size))
        intro A2' e2 v2 hO2 hw2
        have HO2 : Hid (v2.ownsRow w1.heap.size 36 4 (.slice A2' n3 e2) n3 (flat dpL d.ops)) := hO2
        have hq2 := fun q o (hh : _ = some o) => (hw2.block q (Array.getElem?_eq_some_iff.1 hh).1).trans hh
        have hk2 : Below w1.heap.size w1 v2 := Below.trans (by go_grown) (hw2.mono (by first | (simp; done) | (simp; omega) | go_size))
        have hs2 := hk2.size
        have hkk2 : Below (w.heap.size + 1) w1 v2 := hk2.mono (by omega)
        have HO0_2 : Hid (v2.ownsRow w1.heap.size 75 2 (.slice A0' n1 e0) n1 (flat fiL d.live)) := own_below (own_below HO0_1.out (by go_grown)) hw2
        have HO1_2 : Hid (v2.ownsRow w1.heap.size 75 2 (.slice A1' n2 e1) n2 (flat fiL d.safe)) := own_below (own_below HO1.out (by go_grown)) hw2
        clear hO2 hw2
        refine hKq.out _ _ ?_ (fun hHeld => ?_)
        · exact sc_of (by omega) (by go_grown)
        clear hKq Kq
        try simp only [Act.put, List.getElem_toArray, List.getElem_cons_zero, List.getElem_cons_succ, List.setIfInBounds_toArray, List.set_cons_zero, List.set_cons_succ]
        have pp0 : v2.cell? ⟨w.heap.size + 1, 0, none⟩ = some (.slice none 0 0) := (hk2.cell (p := ⟨w.heap.size + 1, 0, none⟩) hl2).trans p0
        have pp1 : v2.cell? ⟨w.heap.size + 1, 1, none⟩ = some (.slice none 0 0) := (hk2.cell (p := ⟨w.heap.size + 1, 1, none⟩) hl2).trans p1
        have pp2 : v2.cell? ⟨w.heap.size + 1, 2, none⟩ = some (.slice none 0 0) := (hk2.cell (p := ⟨w.heap.size + 1, 2, none⟩) hl2).trans p2
        have ppf : ∀ o, v2.frozen? ⟨w.heap.size + 1, o, none⟩ = false := fun o => (hk2.frozen (p := ⟨w.heap.size + 1, o, none⟩) hl2).trans (pf o)
        have mm : w.heap.size + 1 < v2.heap.size := by omega
        refine wpAnyH_take (i := 12) (v := ?_) rfl (by kernel_rfl) (by kernel_rfl) (by kernel_rfl) (fun _ _ _ h => h) (Or.inl ⟨by rfl, ?_⟩) (by assumption) ?_
        rotate_left
        · (intro wq hSw; (try dsimp only at hSw); go_simp <;> with_reducible rfl)
        try simp only [Act.put, List.getElem_toArray, List.getElem_cons_zero, List.getElem_cons_succ, List.setIfInBounds_toArray, List.set_cons_zero, List.set_cons_succ]
        refine wpAnyH_ready (rs := [13]) (by kernel_rfl) (by simp) (AllReadyH.cons rfl (fun Kq hKq => ?_) AllReadyH.nil)
        go_simp
        refine hKq.out _ _ ?_ (fun hHeld => ?_)
        · exact sc_of (by omega) (by go_grown)
        clear hKq Kq
        try simp only [Act.put, List.getElem_toArray, List.getElem_cons_zero, List.getElem_cons_succ, List.setIfInBounds_toArray, List.set_cons_zero, List.set_cons_succ]
        refine wpAnyH_done (by kernel_rfl) ?_ _
        clear hHeld
        go_wp2_with fail
        refine bodyPost_ret (v := .agg #[(.slice A0' n1 e0), (.slice A1' n2 e1), (.slice A2' n3 e2)]) ?_ rfl ⟨_, _, _, rfl, ?_, ?_⟩
        · simp (maxDischargeDepth := 9) [results, Try.results63, go_sem, *]
        · exact ⟨own_mono (ownSet (ownSet (ownSet HO0_2.out hl2 _ _) hl2 _ _) hl2 _ _) (Nat.le_of_eq HZ.out.symm), own_mono (ownSet (ownSet (ownSet HO1_2.out hl2 _ _) hl2 _ _) hl2 _ _) (Nat.le_of_eq HZ.out.symm), own_mono (ownSet (ownSet (ownSet HO2.out hl2 _ _) hl2 _ _) hl2 _ _) (Nat.le_of_eq HZ.out.symm)⟩
        · exact ((Below.setCell (Below.trans HB1.out (hk2.mono HB1.out.size)) (by show w.heap.size ≤ w.heap.size + 1; omega) _).setCell (by show w.heap.size ≤ w.heap.size + 1; omega) _).setCell (by show w.heap.size ≤ w.heap.size + 1; omega) _
      · go_simp
        refine hKq.out _ _ ?_ (fun hHeld => ?_)
        · exact sc_of (by omega) (by go_grown)
        clear hKq Kq
        try simp only [Act.put, List.getElem_toArray, List.getElem_cons_zero, List.getElem_cons_succ, List.setIfInBounds_toArray, List.set_cons_zero, List.set_cons_succ]
        refine wpAnyH_ready (rs := [3]) (by kernel_rfl) (by simp) (AllReadyH.cons rfl (fun Kq hKq => ?_) (AllReadyH.nil))
        refine step_copy4_fi (by rfl) _ _ (by rfl) w1.heap.size _ ?b2 ?b3 (by rfl) (by rfl) HN1.out HZ1.out ?b4 (by omega) ?_
        case b2 => first | (simp; done) | omega | (simp; omega)
        case b3 => first | (refine blk_at ?_; simp; done) | (refine block_old (blk_at ?_); simp; done) | (refine block_old (block_old (blk_at ?_)); simp; done)
        case b4 => exact HR1.out.below (Below.trans HB1.out (Below.mono (B := w1.heap.size) (by go_grown) HB1.out.size))
        intro A0' e0 v0 hO0 hw0
        have HO0 : Hid (v0.ownsRow w1.heap.size 75 2 (.slice A0' n1 e0) n1 (flat fiL d.live)) := hO0
        have hq0 := fun q o (hh : _ = some o) => (hw0.block q (Array.getElem?_eq_some_iff.1 hh).1).trans hh
        have hk0 : Below w1.heap.size w1 v0 := Below.trans (by go_grown) (hw0.mono (by first | (simp; done) | (simp; omega) | go_size))
        have hs0 := hk0.size
        have hkk0 : Below (w.heap.size + 1) w1 v0 := hk0.mono (by omega)
        clear hO0 hw0
        refine hKq.out _ _ ?_ (fun hHeld => ?_)
        · exact sc_of (by omega) (by go_grown)
        clear hKq Kq
        try simp only [Act.put, List.getElem_toArray, List.getElem_cons_zero, List.getElem_cons_succ, List.setIfInBounds_toArray, List.set_cons_zero, List.set_cons_succ]
        refine wpAnyH_ready (rs := [7]) (by kernel_rfl) (by simp) (AllReadyH.cons rfl (fun Kq hKq => ?_) (AllReadyH.nil))
        refine step_copy4_fi (by rfl) _ _ (by rfl) w1.heap.size _ ?b2 ?b3 (by rfl) (by rfl) HN2.out HZ2.out ?b4 (by omega) ?_
        case b2 => first | (simp; done) | omega | (simp; omega)
        case b3 => first | (refine blk_at ?_; simp; done) | (refine block_old (blk_at ?_); simp; done) | (refine block_old (block_old (blk_at ?_)); simp; done) | (refine hq0 _ _ ?_; (first | (refine blk_at ?_; simp; done) | (refine block_old (blk_at ?_); simp; done) | (refine block_old (block_old (blk_at ?_)); simp; done))) | (refine block_old ?_; (refine hq0 _ _ ?_; (first | (refine blk_at ?_; simp; done) | (refine block_old (blk_at ?_); simp; done) | (refine block_old (block_old (blk_at ?_)); simp; done)))) | (refine block_old (block_old ?_); (refine hq0 _ _ ?_; (first | (refine blk_at ?_; simp; done) | (refine block_old (blk_at ?_); simp; done) | (refine block_old (block_old (blk_at ?_)); simp; done))))
        case b4 => exact HR2.out.below (Below.trans HB1.out (Below.mono (B := w1.heap.size) (by go_grown) HB1.out.size))
        intro A1' e1 v1 hO1 hw1
        have HO1 : Hid (v1.ownsRow w1.heap.size 75 2 (.slice A1' n2 e1) n2 (flat fiL d.safe)) := hO1
        have hq1 := fun q o (hh : _ = some o) => (hw1.block q (Array.getElem?_eq_some_iff.1 hh).1).trans hh
        have hk1 : Below w1.heap.size w1 v1 := Below.trans (by go_grown) (hw1.mono (by first | (simp; done) | (simp; omega) | go_size))
        have hs1 := hk1.size
        have hkk1 : Below (w.heap.size + 1) w1 v1 := hk1.mono (by omega)
        have HO0_1 : Hid (v1.ownsRow w1.heap.size 75 2 (.slice A0' n1 e0) n1 (flat fiL d.live)) := own_below (own_below HO0.out (by go_grown)) hw1
        clear hO1 hw1
        refine hKq.out _ _ ?_ (fun hHeld => ?_)
        · exact sc_of (by omega) (by go_grown)
        clear hKq Kq
        try simp only [Act.put, List.getElem_toArray, List.getElem_cons_zero, List.getElem_cons_succ, List.setIfInBounds_toArray, List.set_cons_zero, List.set_cons_succ]
        refine wpAnyH_ready (rs := [11]) (by kernel_rfl) (by simp) (AllReadyH.cons rfl (fun Kq hKq => ?_) (AllReadyH.nil))
        refine step_copy4_dp (by rfl) _ _ (by rfl) w1.heap.size _ ?b2 ?b3 (by rfl) (by rfl) HN3.out HZ3.out ?b4 (by omega) ?_
        case b2 => first | (simp; done) | omega | (simp; omega)
        case b3 => first | (refine blk_at ?_; simp; done) | (refine block_old (blk_at ?_); simp; done) | (refine block_old (block_old (blk_at ?_)); simp; done) | (refine hq1 _ _ ?_; (first | (refine blk_at ?_; simp; done) | (refine block_old (blk_at ?_); simp; done) | (refine block_old (block_old (blk_at ?_)); simp; done) | (refine hq0 _ _ ?_; (first | (refine blk_at ?_; simp; done) | (refine block_old (blk_at ?_); simp; done) | (refine block_old (block_old (blk_at ?_)); simp; done))) | (refine block_old ?_; (refine hq0 _ _ ?_; (first | (refine blk_at ?_; simp; done) | (refine block_old (blk_at ?_); simp; done) | (refine block_old (block_old (blk_at ?_)); simp; done)))) | (refine block_old (block_old ?_); (refine hq0 _ _ ?_; (first | (refine blk_at ?_; simp; done) | (refine block_old (blk_at ?_); simp; done) | (refine block_old (block_old (blk_at ?_)); simp; done)))))) | (refine block_old ?_; (refine hq1 _ _ ?_; (first | (refine blk_at ?_; simp; done) | (refine block_old (blk_at ?_); simp; done) | (refine block_old (block_old (blk_at ?_)); simp; done) | (refine hq0 _ _ ?_; (first | (refine blk_at ?_; simp; done) | (refine block_old (blk_at ?_); simp; done) | (refine block_old (block_old (blk_at ?_)); simp; done))) | (refine block_old ?_; (refine hq0 _ _ ?_; (first | (refine blk_at ?_; simp; done) | (refine block_old (blk_at ?_); simp; done) | (refine block_old (block_old (blk_at ?_)); simp; done)))) | (refine block_old (block_old ?_); (refine hq0 _ _ ?_; (first | (refine blk_at ?_; simp; done) | (refine block_old (blk_at ?_); simp; done) | (refine block_old (block_old (blk_at ?_)); simp; done))))))) | (refine block_old (block_old ?_); (refine hq1 _ _ ?_; (first | (refine blk_at ?_; simp; done) | (refine block_old (blk_at ?_); simp; done) | (refine block_old (block_old (blk_at ?_)); simp; done) | (refine hq0 _ _ ?_; (first | (refine blk_at ?_; simp; done) | (refine block_old (blk_at ?_); simp; done) | (refine block_old (block_old (blk_at ?_)); simp; done))) | (refine block_old ?_; (refine hq0 _ _ ?_; (first | (refine blk_at ?_; simp; done) | (refine block_old (blk_at ?_); simp; done) | (refine block_old (block_old (blk_at ?_)); simp; done)))) | (refine block_old (block_old ?_); (refine hq0 _ _ ?_; (first | (refine blk_at ?_; simp; done) | (refine block_old (blk_at ?_); simp; done) | (refine block_old (block_old (blk_at ?_)); simp; done)))))))
        case b4 => exact HR3.out.below (Below.trans HB1.out (Below.mono (B := w1.heap.size) (by go_grown) HB1.out.size))
        intro A2' e2 v2 hO2 hw2
        have HO2 : Hid (v2.ownsRow w1.heap.size 36 4 (.slice A2' n3 e2) n3 (flat dpL d.ops)) := hO2
        have hq2 := fun q o (hh : _ = some o) => (hw2.block q (Array.getElem?_eq_some_iff.1 hh).1).trans hh
        have hk2 : Below w1.heap.size w1 v2 := Below.trans (by go_grown) (hw2.mono (by first | (simp; done) | (simp; omega) | go_size))
        have hs2 := hk2.size
        have hkk2 : Below (w.heap.size + 1) w1 v2 := hk2.mono (by omega)
        have HO0_2 : Hid (v2.ownsRow w1.heap.size 75 2 (.slice A0' n1 e0) n1 (flat fiL d.live)) := own_below (own_below HO0_1.out (by go_grown)) hw2
        have HO1_2 : Hid (v2.ownsRow w1.heap.size 75 2 (.slice A1' n2 e1) n2 (flat fiL d.safe)) := own_below (own_below HO1.out (by go_grown)) hw2
        clear hO2 hw2
        refine hKq.out _ _ ?_ (fun hHeld => ?_)
        · exact sc_of (by omega) (by go_grown)
        clear hKq Kq
        try simp only [Act.put, List.getElem_toArray, List.getElem_cons_zero, List.getElem_cons_succ, List.setIfInBounds_toArray, List.set_cons_zero, List.set_cons_succ]
        have pp0 : v2.cell? ⟨w.heap.size + 1, 0, none⟩ = some (.slice none 0 0) := (hk2.cell (p := ⟨w.heap.size + 1, 0, none⟩) hl2).trans p0
        have pp1 : v2.cell? ⟨w.heap.size + 1, 1, none⟩ = some (.slice none 0 0) := (hk2.cell (p := ⟨w.heap.size + 1, 1, none⟩) hl2).trans p1
        have pp2 : v2.cell? ⟨w.heap.size + 1, 2, none⟩ = some (.slice none 0 0) := (hk2.cell (p := ⟨w.heap.size + 1, 2, none⟩) hl2).trans p2
        have ppf : ∀ o, v2.frozen? ⟨w.heap.size + 1, o, none⟩ = false := fun o => (hk2.frozen (p := ⟨w.heap.size + 1, o, none⟩) hl2).trans (pf o)
        have mm : w.heap.size + 1 < v2.heap.size := by omega
        refine wpAnyH_take (i := 12) (v := ?_) rfl (by kernel_rfl) (by kernel_rfl) (by kernel_rfl) (fun _ _ _ h => h) (Or.inl ⟨by rfl, ?_⟩) (by assumption) ?_
        rotate_left
        · (intro wq hSw; (try dsimp only at hSw); go_simp <;> with_reducible rfl)
        try simp only [Act.put, List.getElem_toArray, List.getElem_cons_zero, List.getElem_cons_succ, List.setIfInBounds_toArray, List.set_cons_zero, List.set_cons_succ]
        refine wpAnyH_ready (rs := [13]) (by kernel_rfl) (by simp) (AllReadyH.cons rfl (fun Kq hKq => ?_) AllReadyH.nil)
        go_simp
        refine hKq.out _ _ ?_ (fun hHeld => ?_)
        · exact sc_of (by omega) (by go_grown)
        clear hKq Kq
        try simp only [Act.put, List.getElem_toArray, List.getElem_cons_zero, List.getElem_cons_succ, List.setIfInBounds_toArray, List.set_cons_zero, List.set_cons_succ]
        refine wpAnyH_done (by kernel_rfl) ?_ _
        clear hHeld
        go_wp2_with fail
        refine bodyPost_ret (v := .agg #[(.slice A0' n1 e0), (.slice A1' n2 e1), (.slice A2' n3 e2)]) ?_ rfl ⟨_, _, _, rfl, ?_, ?_⟩
        · simp (maxDischargeDepth := 9) [results, Try.results63, go_sem, *]
        · exact ⟨own_mono (ownSet (ownSet (ownSet HO0_2.out hl2 _ _) hl2 _ _) hl2 _ _) (Nat.le_of_eq HZ.out.symm), own_mono (ownSet (ownSet (ownSet HO1_2.out hl2 _ _) hl2 _ _) hl2 _ _) (Nat.le_of_eq HZ.out.symm), own_mono (ownSet (ownSet (ownSet HO2.out hl2 _ _) hl2 _ _) hl2 _ _) (Nat.le_of_eq HZ.out.symm)⟩
        · exact ((Below.setCell (Below.trans HB1.out (hk2.mono HB1.out.size)) (by show w.heap.size ≤ w.heap.size + 1; omega) _).setCell (by show w.heap.size ≤ w.heap.size + 1; omega) _).setCell (by show w.heap.size ≤ w.heap.size + 1; omega) _
  · go_simp
    refine hKq.out _ _ ?_ (fun hHeld => ?_)
    · exact sc_of (by omega) (by go_grown)
    clear hKq Kq
    try simp only [Act.put, List.getElem_toArray, List.getElem_cons_zero, List.getElem_cons_succ, List.setIfInBounds_toArray, List.set_cons_zero, List.set_cons_succ]
    refine wpAnyH_ready (rs := [0, 8]) (by kernel_rfl) (by simp) (AllReadyH.cons rfl (fun Kq hKq => ?_) (AllReadyH.cons rfl (fun Kq hKq => ?_) (AllReadyH.nil)))
    · go_simp
      refine hKq.out _ _ ?_ (fun hHeld => ?_)
      · exact sc_of (by omega) (by go_grown)
      clear hKq Kq
      try simp only [Act.put, List.getElem_toArray, List.getElem_cons_zero, List.getElem_cons_succ, List.setIfInBounds_toArray, List.set_cons_zero, List.set_cons_succ]
      refine wpAnyH_ready (rs := [3, 8]) (by kernel_rfl) (by simp) (AllReadyH.cons rfl (fun Kq hKq => ?_) (AllReadyH.cons rfl (fun Kq hKq => ?_) (AllReadyH.nil)))
      · refine step_copy4_fi (by rfl) _ _ (by rfl) w1.heap.size _ ?b2 ?b3 (by rfl) (by rfl) HN1.out HZ1.out ?b4 (by omega) ?_
        case b2 => first | (simp; done) | omega | (simp; omega)
        case b3 => first | (refine blk_at ?_; simp; done) | (refine block_old (blk_at ?_); simp; done) | (refine block_old (block_old (blk_at ?_)); simp; done)
        case b4 => exact HR1.out.below (Below.trans HB1.out (Below.mono (B := w1.heap.size) (by go_grown) HB1.out.size))
        intro A0' e0 v0 hO0 hw0
        have HO0 : Hid (v0.ownsRow w1.heap.size 75 2 (.slice A0' n1 e0) n1 (flat fiL d.live)) := hO0
        have hq0 := fun q o (hh : _ = some o) => (hw0.block q (Array.getElem?_eq_some_iff.1 hh).1).trans hh
        have hk0 : Below w1.heap.size w1 v0 := Below.trans (by go_grown) (hw0.mono (by first | (simp; done) | (simp; omega) | go_size))
        have hs0 := hk0.size
        have hkk0 : Below (w.heap.size + 1) w1 v0 := hk0.mono (by omega)
        clear hO0 hw0
        refine hKq.out _ _ ?_ (fun hHeld => ?_)
        · exact sc_of (by omega) (by go_grown)
        clear hKq Kq
        try simp only [Act.put, List.getElem_toArray, List.getElem_cons_zero, List.getElem_cons_succ, List.setIfInBounds_toArray, List.set_cons_zero, List.set_cons_succ]
        refine wpAnyH_ready (rs := [7, 8]) (by kernel_rfl) (by simp) (AllReadyH.cons rfl (fun Kq hKq => ?_) (AllReadyH.cons rfl (fun Kq hKq => ?_) (AllReadyH.nil)))
        · refine step_copy4_fi (by rfl) _ _ (by rfl) w1.heap.size _ ?b2 ?b3 (by rfl) (by rfl) HN2.out HZ2.out ?b4 (by omega) ?_
          case b2 => first | (simp; done) | omega | (simp; omega)
          case b3 => first | (refine blk_at ?_; simp; done) | (refine block_old (blk_at ?_); simp; done) | (refine block_old (block_old (blk_at ?_)); simp; done) | (refine hq0 _ _ ?_; (first | (refine blk_at ?_; simp; done) | (refine block_old (blk_at ?_); simp; done) | (refine block_old (block_old (blk_at ?_)); simp; done))) | (refine block_old ?_; (refine hq0 _ _ ?_; (first | (refine blk_at ?_; simp; done) | (refine block_old (blk_at ?_); simp; done) | (refine block_old (block_old (blk_at ?_)); simp; done)))) | (refine block_old (block_old ?_); (refine hq0 _ _ ?_; (first | (refine blk_at ?_; simp; done) | (refine block_old (blk_at ?_); simp; done) | (refine block_old (block_old (blk_at ?_)); simp; done))))
          case b4 => exact HR2.out.below (Below.trans HB1.out (Below.mono (B := w1.heap.size) (by go_grown) HB1.out.size))
          intro A1' e1 v1 hO1 hw1
          have HO1 : Hid (v1.ownsRow w1.heap.size 75 2 (.slice A1' n2 e1) n2 (flat fiL d.safe)) := hO1
          have hq1 := fun q o (hh : _ = some o) => (hw1.block q (Array.getElem?_eq_some_iff.1 hh).1).trans hh
          have hk1 : Below w1.heap.size w1 v1 := Below.trans (by go_grown) (hw1.mono (by first | (simp; done) | (simp; omega) | go_size))
          have hs1 := hk1.size
          have hkk1 : Below (w.heap.size + 1) w1 v1 := hk1.mono (by omega)
          have HO0_1 : Hid (v1.ownsRow w1.heap.size 75 2 (.slice A0' n1 e0) n1 (flat fiL d.live)) := own_below (own_below HO0.out (by go_grown)) hw1
          clear hO1 hw1
          refine hKq.out _ _ ?_ (fun hHeld => ?_)
          · exact sc_of (by omega) (by go_grown)
          clear hKq Kq
          try simp only [Act.put, List.getElem_toArray, List.getElem_cons_zero, List.getElem_cons_succ, List.setIfInBounds_toArray, List.set_cons_zero, List.set_cons_succ]
          refine wpAnyH_ready (rs := [8]) (by kernel_rfl) (by simp) (AllReadyH.cons rfl (fun Kq hKq => ?_) (AllReadyH.nil))
          go_simp
          refine hKq.out _ _ ?_ (fun hHeld => ?_)
          · exact sc_of (by omega) (by go_grown)
          clear hKq Kq
          try simp only [Act.put, List.getElem_toArray, List.getElem_cons_zero, List.getElem_cons_succ, List.setIfInBounds_toArray, List.set_cons_zero, List.set_cons_succ]
          refine wpAnyH_ready (rs := [11]) (by kernel_rfl) (by simp) (AllReadyH.cons rfl (fun Kq hKq => ?_) (AllReadyH.nil))
          refine step_copy4_dp (by rfl) _ _ (by rfl) w1.heap.size _ ?b2 ?b3 (by rfl) (by rfl) HN3.out HZ3.out ?b4 (by omega) ?_
          case b2 => first | (simp; done) | omega | (simp; omega)
          case b3 => first | (refine blk_at ?_; simp; done) | (refine block_old (blk_at ?_); simp; done) | (refine block_old (block_old (blk_at ?_)); simp; done) | (refine hq1 _ _ ?_; (first | (refine blk_at ?_; simp; done) | (refine block_old (blk_at ?_); simp; done) | (refine block_old (block_old (blk_at ?_)); simp; done) | (refine hq0 _ _ ?_; (first | (refine blk_at ?_; simp; done) | (refine block_old (blk_at ?_); simp; done) | (refine block_old (block_old (blk_at ?_)); simp; done))) | (refine block_old ?_; (refine hq0 _ _ ?_; (first | (refine blk_at ?_; simp; done) | (refine block_old (blk_at ?_); simp; done) | (refine block_old (block_old (blk_at ?_)); simp; done)))) | (refine block_old (block_old ?_); (refine hq0 _ _ ?_; (first | (refine blk_at ?_; simp; done) | (refine block_old (blk_at ?_); simp; done) | (refine block_old (block_old (blk_at ?_)); simp; done)))))) | (refine block_old ?_; (refine hq1 _ _ ?_; (first | (refine blk_at ?_; simp; done) | (refine block_old (blk_at ?_); simp; done) | (refine block_old (block_old (blk_at ?_)); simp; done) | (refine hq0 _ _ ?_; (first | (refine blk_at ?_; simp; done) | (refine block_old (blk_at ?_); simp; done) | (refine block_old (block_old (blk_at ?_)); simp; done))) | (refine block_old ?_; (refine hq0 _ _ ?_; (first | (refine blk_at ?_; simp; done) | (refine block_old (blk_at ?_); simp; done) | (refine block_old (block_old (blk_at ?_)); simp; done)))) | (refine block_old (block_old ?_); (refine hq0 _ _ ?_; (first | (refine blk_at ?_; simp; done) | (refine block_old (blk_at ?_); simp; done) | (refine block_old (block_old (blk_at ?_)); simp; done))))))) | (refine block_old (block_old ?_); (refine hq1 _ _ ?_; (first | (refine blk_at ?_; simp; done) | (refine block_old (blk_at ?_); simp; done) | (refine block_old (block_old (blk_at ?_)); simp; done) | (refine hq0 _ _ ?_; (first | (refine blk_at ?_; simp; done) | (refine block_old (blk_at ?_); simp; done) | (refine block_old (block_old (blk_at ?_)); simp; done))) | (refine block_old ?_; (refine hq0 _ _ ?_; (first | (refine blk_at ?_; simp; done) | (refine block_old (blk_at ?_); simp; done) | (refine block_old (block_old (blk_at ?_)); simp; done)))) | (refine block_old (block_old ?_); (refine hq0 _ _ ?_; (first | (refine blk_at ?_; simp; done) | (refine block_old (blk_at ?_); simp; done) | (refine block_old (block_old (blk_at ?_)); simp; done)))))))
          case b4 => exact HR3.out.below (Below.trans HB1.out (Below.mono (B := w1.heap.size) (by go_grown) HB1.out.size))
          intro A2' e2 v2 hO2 hw2
          have HO2 : Hid (v2.ownsRow w1.heap.size 36 4 (.slice A2' n3 e2) n3 (flat dpL d.ops)) := hO2
          have hq2 := fun q o (hh : _ = some o) => (hw2.block q (Array.getElem?_eq_some_iff.1 hh).1).trans hh
          have hk2 : Below w1.heap.size w1 v2 := Below.trans (by go_grown) (hw2.mono (by first | (simp; done) | (simp; omega) | go_size))
          have hs2 := hk2.size
          have hkk2 : Below (w.heap.size + 1) w1 v2 := hk2.mono (by omega)
          have HO0_2 : Hid (v2.ownsRow w1.heap.size 75 2 (.slice A0' n1 e0) n1 (flat fiL d.live)) := own_below (own_below HO0_1.out (by go_grown)) hw2
          have HO1_2 : Hid (v2.ownsRow w1.heap.size 75 2 (.slice A1' n2 e1) n2 (flat fiL d.safe)) := own_below (own_below HO1.out (by go_grown)) hw2
          clear hO2 hw2
          refine hKq.out _ _ ?_ (fun hHeld => ?_)
          · exact sc_of (by omega) (by go_grown)
          clear hKq Kq
          try simp only [Act.put, List.getElem_toArray, List.getElem_cons_zero, List.getElem_cons_succ, List.setIfInBounds_toArray, List.set_cons_zero, List.set_cons_succ]
          have pp0 : v2.cell? ⟨w.heap.size + 1, 0, none⟩ = some (.slice none 0 0) := (hk2.cell (p := ⟨w.heap.size + 1, 0, none⟩) hl2).trans p0
          have pp1 : v2.cell? ⟨w.heap.size + 1, 1, none⟩ = some (.slice none 0 0) := (hk2.cell (p := ⟨w.heap.size + 1, 1, none⟩) hl2).trans p1
          have pp2 : v2.cell? ⟨w.heap.size + 1, 2, none⟩ = some (.slice none 0 0) := (hk2.cell (p := ⟨w.heap.size + 1, 2, none⟩) hl2).trans p2
          have ppf : ∀ o, v2.frozen? ⟨w.heap.size + 1, o, none⟩ = false := fun o => (hk2.frozen (p := ⟨w.heap.size + 1, o, none⟩) hl2).trans (pf o)
          have mm : w.heap.size + 1 < v2.heap.size := by omega
          refine wpAnyH_take (i := 12) (v := ?_) rfl (by kernel_rfl) (by kernel_rfl) (by kernel_rfl) (fun _ _ _ h => h) (Or.inl ⟨by rfl, ?_⟩) (by assumption) ?_
          rotate_left
          · (intro wq hSw; (try dsimp only at hSw); go_simp <;> with_reducible rfl)
          try simp only [Act.put, List.getElem_toArray, List.getElem_cons_zero, List.getElem_cons_succ, List.setIfInBounds_toArray, List.set_cons_zero, List.set_cons_succ]
          refine wpAnyH_ready (rs := [13]) (by kernel_rfl) (by simp) (AllReadyH.cons rfl (fun Kq hKq => ?_) AllReadyH.nil)
          go_simp
          refine hKq.out _ _ ?_ (fun hHeld => ?_)
          · exact sc_of (by omega) (by go_grown)
          clear hKq Kq
          try simp only [Act.put, List.getElem_toArray, List.getElem_cons_zero, List.getElem_cons_succ, List.setIfInBounds_toArray, List.set_cons_zero, List.set_cons_succ]
          refine wpAnyH_done (by kernel_rfl) ?_ _
          clear hHeld
          go_wp2_with fail
          refine bodyPost_ret (v := .agg #[(.slice A0' n1 e0), (.slice A1' n2 e1), (.slice A2' n3 e2)]) ?_ rfl ⟨_, _, _, rfl, ?_, ?_⟩
          · simp (maxDischargeDepth := 9) [results, Try.results63, go_sem, *]
          · exact ⟨own_mono (ownSet (ownSet (ownSet HO0_2.out hl2 _ _) hl2 _ _) hl2 _ _) (Nat.le_of_eq HZ.out.symm), own_mono (ownSet (ownSet (ownSet HO1_2.out hl2 _ _) hl2 _ _) hl2 _ _) (Nat.le_of_eq HZ.out.symm), own_mono (ownSet (ownSet (ownSet HO2.out hl2 _ _) hl2 _ _) hl2 _ _) (Nat.le_of_eq HZ.out.symm)⟩
          · exact ((Below.setCell (Below.trans HB1.out (hk2.mono HB1.out.size)) (by show w.heap.size ≤ w.heap.size + 1; omega) _).setCell (by show w.heap.size ≤ w.heap.size + 1; omega) _).setCell (by show w.heap.size ≤ w.heap.size + 1; omega) _
        · go_simp
          refine hKq.out _ _ ?_ (fun hHeld => ?_)
          · exact sc_of (by omega) (by go_grown)
          clear hKq Kq
          try simp only [Act.put, List.getElem_toArray, List.getElem_cons_zero, List.getElem_cons_succ, List.setIfInBounds_toArray, List.set_cons_zero, List.set_cons_succ]
          refine wpAnyH_ready (rs := [7]) (by kernel_rfl) (by simp) (AllReadyH.cons rfl (fun Kq hKq => ?_) (AllReadyH.nil))
          refine step_copy4_fi (by rfl) _ _ (by rfl) w1.heap.size _ ?b2 ?b3 (by rfl) (by rfl) HN2.out HZ2.out ?b4 (by omega) ?_
          case b2 => first | (simp; done) | omega | (simp; omega)
          case b3 => first | (refine blk_at ?_; simp; done) | (refine block_old (blk_at ?_); simp; done) | (refine block_old (block_old (blk_at ?_)); simp; done) | (refine hq0 _ _ ?_; (first | (refine blk_at ?_; simp; done) | (refine block_old (blk_at ?_); simp; done) | (refine block_old (block_old (blk_at ?_)); simp; done))) | (refine block_old ?_; (refine hq0 _ _ ?_; (first | (refine blk_at ?_; simp; done) | (refine block_old (blk_at ?_); simp; done) | (refine block_old (block_old (blk_at ?_)); simp; done)))) | (refine block_old (block_old ?_); (refine hq0 _ _ ?_; (first | (refine blk_at ?_; simp; done) | (refine block_old (blk_at ?_); simp; done) | (refine block_old (block_old (blk_at ?_)); simp; done))))
          case b4 => exact HR2.out.below (Below.trans HB1.out (Below.mono (B := w1.heap.size) (by go_grown) HB1.out.size))
          intro A1' e1 v1 hO1 hw1
          have HO1 : Hid (v1.ownsRow w1.heap.size 75 2 (.slice A1' n2 e1) n2 (flat fiL d.safe)) := hO1
          have hq1 := fun q o (hh : _ = some o) => (hw1.block q (Array.getElem?_eq_some_iff.1 hh).1).trans hh
          have hk1 : Below w1.heap.size w1 v1 := Below.trans (by go_grown) (hw1.mono (by first | (simp; done) | (simp; omega) | go_size))
          have hs1 := hk1.size
          have hkk1 : Below (w.heap.size + 1) w1 v1 := hk1.mono (by omega)
          have HO0_1 : Hid (v1.ownsRow w1.heap.size 75 2 (.slice A0' n1 e0) n1 (flat fiL d.live)) := own_below (own_below HO0.out (by go_grown)) hw1
          clear hO1 hw1
          refine hKq.out _ _ ?_ (fun hHeld => ?_)
          · exact sc_of (by omega) (by go_grown)
          clear hKq Kq
          try simp only [Act.put, List.getElem_toArray, List.getElem_cons_zero, List.getElem_cons_succ, List.setIfInBounds_toArray, List.set_cons_zero, List.set_cons_succ]
          refine wpAnyH_ready (rs := [11]) (by kernel_rfl) (by simp) (AllReadyH.cons rfl (fun Kq hKq => ?_) (AllReadyH.nil))
          refine step_copy4_dp (by rfl) _ _ (by rfl) w1.heap.size _ ?b2 ?b3 (by rfl) (by rfl) HN3.out HZ3.out ?b4 (by omega) ?_
          case b2 => first | (simp; done) | omega | (simp; omega)
          case b3 => first | (refine blk_at ?_; simp; done) | (refine block_old (blk_at ?_); simp; done) | (refine block_old (block_old (blk_at ?_)); simp; done) | (refine hq1 _ _ ?_; (first | (refine blk_at ?_; simp; done) | (refine block_old (blk_at ?_); simp; done) | (refine block_old (block_old (blk_at ?_)); simp; done) | (refine hq0 _ _ ?_; (first | (refine blk_at ?_; simp; done) | (refine block_old (blk_at ?_); simp; done) | (refine block_old (block_old (blk_at ?_)); simp; done))) | (refine block_old ?_; (refine hq0 _ _ ?_; (first | (refine blk_at ?_; simp; done) | (refine block_old (blk_at ?_); simp; done) | (refine block_old (block_old (blk_at ?_)); simp; done)))) | (refine block_old (block_old ?_); (refine hq0 _ _ ?_; (first | (refine blk_at ?_; simp; done) | (refine block_old (blk_at ?_); simp; done) | (refine block_old (block_old (blk_at ?_)); simp; done)))))) | (refine block_old ?_; (refine hq1 _ _ ?_; (first | (refine blk_at ?_; simp; done) | (refine block_old (blk_at ?_); simp; done) | (refine block_old (block_old (blk_at ?_)); simp; done) | (refine hq0 _ _ ?_; (first | (refine blk_at ?_; simp; done) | (refine block_old (blk_at ?_); simp; done) | (refine block_old (block_old (blk_at ?_)); simp; done))) | (refine block_old ?_; (refine hq0 _ _ ?_; (first | (refine blk_at ?_; simp; done) | (refine block_old (blk_at ?_); simp; done) | (refine block_old (block_old (blk_at ?_)); simp; done)))) | (refine block_old (block_old ?_); (refine hq0 _ _ ?_; (first | (refine blk_at ?_; simp; done) | (refine block_old (blk_at ?_); simp; done) | (refine block_old (block_old (blk_at ?_)); simp; done))))))) | (refine block_old (block_old ?_); (refine hq1 _ _ ?_; (first | (refine blk_at ?_; simp; done) | (refine block_old (blk_at ?_); simp; done) | (refine block_old (block_old (blk_at ?_)); simp; done) | (refine hq0 _ _ ?_; (first | (refine blk_at ?_; simp; done) | (refine block_old (blk_at ?_); simp; done) | (refine block_old (block_old (blk_at ?_)); simp; done))) | (refine block_old ?_; (refine hq0 _ _ ?_; (first | (refine blk_at ?_; simp; done) | (refine block_old (blk_at ?_); simp; done) | (refine block_old (block_old (blk_at ?_)); simp; done)))) | (refine block_old (block_old ?_); (refine hq0 _ _ ?_; (first | (refine blk_at ?_; simp; done) | (refine block_old (blk_at ?_); simp; done) | (refine block_old (block_old (blk_at ?_)); simp; done)))))))
          case b4 => exact HR3.out.below (Below.trans HB1.out (Below.mono (B := w1.heap.size) (by go_grown) HB1.out.size))
          intro A2' e2 v2 hO2 hw2
          have HO2 : Hid (v2.ownsRow w1.heap.size 36 4 (.slice A2' n3 e2) n3 (flat dpL d.ops)) := hO2
          have hq2 := fun q o (hh : _ = some o) => (hw2.block q (Array.getElem?_eq_some_iff.1 hh).1).trans hh
          have hk2 : Below w1.heap.size w1 v2 := Below.trans (by go_grown) (hw2.mono (by first | (simp; done) | (simp; omega) | go_size))
          have hs2 := hk2.size
          have hkk2 : Below (w.heap.size + 1) w1 v2 := hk2.mono (by omega)
          have HO0_2 : Hid (v2.ownsRow w1.heap.size 75 2 (.slice A0' n1 e0) n1 (flat fiL d.live)) := own_below (own_below HO0_1.out (by go_grown)) hw2
          have HO1_2 : Hid (v2.ownsRow w1.heap.size 75 2 (.slice A1' n2 e1) n2 (flat fiL d.safe)) := own_below (own_below HO1.out (by go_grown)) hw2
          clear hO2 hw2
          refine hKq.out _ _ ?_ (fun hHeld => ?_)
          · exact sc_of (by omega) (by go_grown)
          clear hKq Kq
          try simp only [Act.put, List.getElem_toArray, List.getElem_cons_zero, List.getElem_cons_succ, List.setIfInBounds_toArray, List.set_cons_zero, List.set_cons_succ]
          have pp0 : v2.cell? ⟨w.heap.size + 1, 0, none⟩ = some (.slice none 0 0) := (hk2.cell (p := ⟨w.heap.size + 1, 0, none⟩) hl2).trans p0
          have pp1 : v2.cell? ⟨w.heap.size + 1, 1, none⟩ = some (.slice none 0 0) := (hk2.cell (p := ⟨w.heap.size + 1, 1, none⟩) hl2).trans p1
          have pp2 : v2.cell? ⟨w.heap.size + 1, 2, none⟩ = some (.slice none 0 0) := (hk2.cell (p := ⟨w.heap.size + 1, 2, none⟩) hl2).trans p2
          have ppf : ∀ o, v2.frozen? ⟨w.heap.size + 1, o, none⟩ = false := fun o => (hk2.frozen (p := ⟨w.heap.size + 1, o, none⟩) hl2).trans (pf o)
          have mm : w.heap.size + 1 < v2.heap.size := by omega
          refine wpAnyH_take (i := 12) (v := ?_) rfl (by kernel_rfl) (by kernel_rfl) (by kernel_rfl) (fun _ _ _ h => h) (Or.inl ⟨by rfl, ?_⟩) (by assumption) ?_
          rotate_left
          · (intro wq hSw; (try dsimp only at hSw); go_simp <;> with_reducible rfl)
          try simp only [Act.put, List.getElem_toArray, List.getElem_cons_zero, List.getElem_cons_succ, List.setIfInBounds_toArray, List.set_cons_zero, List.set_cons_succ]
          refine wpAnyH_ready (rs := [13]) (by kernel_rfl) (by simp) (AllReadyH.cons rfl (fun Kq hKq => ?_) AllReadyH.nil)
          go_simp
          refine hKq.out _ _ ?_ (fun hHeld => ?_)
          · exact sc_of (by omega) (by go_grown)
          clear hKq Kq
          try simp only [Act.put, List.getElem_toArray, List.getElem_cons_zero, List.getElem_cons_succ, List.setIfInBounds_toArray, List.set_cons_zero, List.set_cons_succ]
          refine wpAnyH_done (by kernel_rfl) ?_ _
          clear hHeld
          go_wp2_with fail
          refine bodyPost_ret (v := .agg #[(.slice A0' n1 e0), (.slice A1' n2 e1), (.slice A2' n3 e2)]) ?_ rfl ⟨_, _, _, rfl, ?_, ?_⟩
          · simp (maxDischargeDepth := 9) [results, Try.results63, go_sem, *]
          · exact ⟨own_mono (ownSet (ownSet (ownSet HO0_2.out hl2 _ _) hl2 _ _) hl2 _ _) (Nat.le_of_eq HZ.out.symm), own_mono (ownSet (ownSet (ownSet HO1_2.out hl2 _ _) hl2 _ _) hl2 _ _) (Nat.le_of_eq HZ.out.symm), own_mono (ownSet (ownSet (ownSet HO2.out hl2 _ _) hl2 _ _) hl2 _ _) (Nat.le_of_eq HZ.out.symm)⟩
          · exact ((Below.setCell (Below.trans HB1.out (hk2.mono HB1.out.size)) (by show w.heap.size ≤ w.heap.size + 1; omega) _).setCell (by show w.heap.size ≤ w.heap.size + 1; omega) _).setCell (by show w.heap.size ≤ w.heap.size + 1; omega) _
      · go_simp
        refine hKq.out _ _ ?_ (fun hHeld => ?_)
        · exact sc_of (by omega) (by go_grown)
        clear hKq Kq
        try simp only [Act.put, List.getElem_toArray, List.getElem_cons_zero, List.getElem_cons_succ, List.setIfInBounds_toArray, List.set_cons_zero, List.set_cons_succ]
        refine wpAnyH_ready (rs := [3]) (by kernel_rfl) (by simp) (AllReadyH.cons rfl (fun Kq hKq => ?_) (AllReadyH.nil))
        refine step_copy4_fi (by rfl) _ _ (by rfl) w1.heap.size _ ?b2 ?b3 (by rfl) (by rfl) HN1.out HZ1.out ?b4 (by omega) ?_
        case b2 => first | (simp; done) | omega | (simp; omega)
        case b3 => first | (refine blk_at ?_; simp; done) | (refine block_old (blk_at ?_); simp; done) | (refine block_old (block_old (blk_at ?_)); simp; done)
        case b4 => exact HR1.out.below (Below.trans HB1.out (Below.mono (B := w1.heap.size) (by go_grown) HB1.out.size))
        intro A0' e0 v0 hO0 hw0
        have HO0 : Hid (v0.ownsRow w1.heap.size 75 2 (.slice A0' n1 e0) n1 (flat fiL d.live)) := hO0
        have hq0 := fun q o (hh : _ = some o) => (hw0.block q (Array.getElem?_eq_some_iff.1 hh).1).trans hh
        have hk0 : Below w1.heap.size w1 v0 := Below.trans (by go_grown) (hw0.mono (by first | (simp; done) | (simp; omega) | go_size))
        have hs0 := hk0.size
        have hkk0 : Below (w.heap.size + 1) w1 v0 := hk0.mono (by omega)
        clear hO0 hw0
        refine hKq.out _ _ ?_ (fun hHeld => ?_)
        · exact sc_of (by omega) (by go_grown)
        clear hKq Kq
        try simp only [Act.put, List.getElem_toArray, List.getElem_cons_zero, List.getElem_cons_succ, List.setIfInBounds_toArray, List.set_cons_zero, List.set_cons_succ]
        refine wpAnyH_ready (rs := [7]) (by kernel_rfl) (by simp) (AllReadyH.cons rfl (fun Kq hKq => ?_) (AllReadyH.nil))
        refine step_copy4_fi (by rfl) _ _ (by rfl) w1.heap.size _ ?b2 ?b3 (by rfl) (by rfl) HN2.out HZ2.out ?b4 (by omega) ?_
        case b2 => first | (simp; done) | omega | (simp; omega)
        case b3 => first | (refine blk_at ?_; simp; done) | (refine block_old (blk_at ?_); simp; done) | (refine block_old (block_old (blk_at ?_)); simp; done) | (refine hq0 _ _ ?_; (first | (refine blk_at ?_; simp; done) | (refine block_old (blk_at ?_); simp; done) | (refine block_old (block_old (blk_at ?_)); simp; done))) | (refine block_old ?_; (refine hq0 _ _ ?_; (first | (refine blk_at ?_; simp; done) | (refine block_old (blk_at ?_); simp; done) | (refine block_old (block_old (blk_at ?_)); simp; done)))) | (refine block_old (block_old ?_); (refine hq0 _ _ ?_; (first | (refine blk_at ?_; simp; done) | (refine block_old (blk_at ?_); simp; done) | (refine block_old (block_old (blk_at ?_)); simp; done))))
        case b4 => exact HR2.out.below (Below.trans HB1.out (Below.mono (B := w1.heap.size) (by go_grown) HB1.out.size))
        intro A1' e1 v1 hO1 hw1
        have HO1 : Hid (v1.ownsRow w1.heap.size 75 2 (.slice A1' n2 e1) n2 (flat fiL d.safe)) := hO1
        have hq1 := fun q o (hh : _ = some o) => (hw1.block q (Array.getElem?_eq_some_iff.1 hh).1).trans hh
        have hk1 : Below w1.heap.size w1 v1 := Below.trans (by go_grown) (hw1.mono (by first | (simp; done) | (simp; omega) | go_size))
        have hs1 := hk1.size
        have hkk1 : Below (w.heap.size + 1) w1 v1 := hk1.mono (by omega)
        have HO0_1 : Hid (v1.ownsRow w1.heap.size 75 2 (.slice A0' n1 e0) n1 (flat fiL d.live)) := own_below (own_below HO0.out (by go_grown)) hw1
        clear hO1 hw1
        refine hKq.out _ _ ?_ (fun hHeld => ?_)
        · exact sc_of (by omega) (by go_grown)
        clear hKq Kq
        try simp only [Act.put, List.getElem_toArray, List.getElem_cons_zero, List.getElem_cons_succ, List.setIfInBounds_toArray, List.set_cons_zero, List.set_cons_succ]
        refine wpAnyH_ready (rs := [11]) (by kernel_rfl) (by simp) (AllReadyH.cons rfl (fun Kq hKq => ?_) (AllReadyH.nil))
        refine step_copy4_dp (by rfl) _ _ (by rfl) w1.heap.size _ ?b2 ?b3 (by rfl) (by rfl) HN3.out HZ3.out ?b4 (by omega) ?_
        case b2 => first | (simp; done) | omega | (simp; omega)
        case b3 => first | (refine blk_at ?_; simp; done) | (refine block_old (blk_at ?_); simp; done) | (refine block_old (block_old (blk_at ?_)); simp; done) | (refine hq1 _ _ ?_; (first | (refine blk_at ?_; simp; done) | (refine block_old (blk_at ?_); simp; done) | (refine block_old (block_old (blk_at ?_)); simp; done) | (refine hq0 _ _ ?_; (first | (refine blk_at ?_; simp; done) | (refine block_old (blk_at ?_); simp; done) | (refine block_old (block_old (blk_at ?_)); simp; done))) | (refine block_old ?_; (refine hq0 _ _ ?_; (first | (refine blk_at ?_; simp; done) | (refine block_old (blk_at ?_); simp; done) | (refine block_old (block_old (blk_at ?_)); simp; done)))) | (refine block_old (block_old ?_); (refine hq0 _ _ ?_; (first | (refine blk_at ?_; simp; done) | (refine block_old (blk_at ?_); simp; done) | (refine block_old (block_old (blk_at ?_)); simp; done)))))) | (refine block_old ?_; (refine hq1 _ _ ?_; (first | (refine blk_at ?_; simp; done) | (refine block_old (blk_at ?_); simp; done) | (refine block_old (block_old (blk_at ?_)); simp; done) | (refine hq0 _ _ ?_; (first | (refine blk_at ?_; simp; done) | (refine block_old (blk_at ?_); simp; done) | (refine block_old (block_old (blk_at ?_)); simp; done))) | (refine block_old ?_; (refine hq0 _ _ ?_; (first | (refine blk_at ?_; simp; done) | (refine block_old (blk_at ?_); simp; done) | (refine block_old (block_old (blk_at ?_)); simp; done)))) | (refine block_old (block_old ?_); (refine hq0 _ _ ?_; (first | (refine blk_at ?_; simp; done) | (refine block_old (blk_at ?_); simp; done) | (refine block_old (block_old (blk_at ?_)); simp; done))))))) | (refine block_old (block_old ?_); (refine hq1 _ _ ?_; (first | (refine blk_at ?_; simp; done) | (refine block_old (blk_at ?_); simp; done) | (refine block_old (block_old (blk_at ?_)); simp; done) | (refine hq0 _ _ ?_; (first | (refine blk_at ?_; simp; done) | (refine block_old (blk_at ?_); simp; done) | (refine block_old (block_old (blk_at ?_)); simp; done))) | (refine block_old ?_; (refine hq0 _ _ ?_; (first | (refine blk_at ?_; simp; done) | (refine block_old (blk_at ?_); simp; done) | (refine block_old (block_old (blk_at ?_)); simp; done)))) | (refine block_old (block_old ?_); (refine hq0 _ _ ?_; (first | (refine blk_at ?_; simp; done) | (refine block_old (blk_at ?_); simp; done) | (refine block_old (block_old (blk_at ?_)); simp; done)))))))
        case b4 => exact HR3.out.below (Below.trans HB1.out (Below.mono (B := w1.heap.size) (by go_grown) HB1.out.size))
        intro A2' e2 v2 hO2 hw2
        have HO2 : Hid (v2.ownsRow w1.heap.size 36 4 (.slice A2' n3 e2) n3 (flat dpL d.ops)) := hO2
        have hq2 := fun q o (hh : _ = some o) => (hw2.block q (Array.getElem?_eq_some_iff.1 hh).1).trans hh
        have hk2 : Below w1.heap.size w1 v2 := Below.trans (by go_grown) (hw2.mono (by first | (simp; done) | (simp; omega) | go_size))
        have hs2 := hk2.size
        have hkk2 : Below (w.heap.size + 1) w1 v2 := hk2.mono (by omega)
        have HO0_2 : Hid (v2.ownsRow w1.heap.size 75 2 (.slice A0' n1 e0) n1 (flat fiL d.live)) := own_below (own_below HO0_1.out (by go_grown)) hw2
        have HO1_2 : Hid (v2.ownsRow w1.heap.size 75 2 (.slice A1' n2 e1) n2 (flat fiL d.safe)) := own_below (own_below HO1.out (by go_grown)) hw2
        clear hO2 hw2
        refine hKq.out _ _ ?_ (fun hHeld => ?_)
        · exact sc_of (by omega) (by go_grown)
        clear hKq Kq
        try simp only [Act.put, List.getElem_toArray, List.getElem_cons_zero, List.getElem_cons_succ, List.setIfInBounds_toArray, List.set_cons_zero, List.set_cons_succ]
        have pp0 : v2.cell? ⟨w.heap.size + 1, 0, none⟩ = some (.slice none 0 0) := (hk2.cell (p := ⟨w.heap.size + 1, 0, none⟩) hl2).trans p0
        have pp1 : v2.cell? ⟨w.heap.size + 1, 1, none⟩ = some (.slice none 0 0) := (hk2.cell (p := ⟨w.heap.size + 1, 1, none⟩) hl2).trans p1
        have pp2 : v2.cell? ⟨w.heap.size + 1, 2, none⟩ = some (.slice none 0 0) := (hk2.cell (p := ⟨w.heap.size + 1, 2, none⟩) hl2).trans p2
        have ppf : ∀ o, v2.frozen? ⟨w.heap.size + 1, o, none⟩ = false := fun o => (hk2.frozen (p := ⟨w.heap.size + 1, o, none⟩) hl2).trans (pf o)
        have mm : w.heap.size + 1 < v2.heap.size := by omega
        refine wpAnyH_take (i := 12) (v := ?_) rfl (by kernel_rfl) (by kernel_rfl) (by kernel_rfl) (fun _ _ _ h => h) (Or.inl ⟨by rfl, ?_⟩) (by assumption) ?_
        rotate_left
        · (intro wq hSw; (try dsimp only at hSw); go_simp <;> with_reducible rfl)
        try simp only [Act.put, List.getElem_toArray, List.getElem_cons_zero, List.getElem_cons_succ, List.setIfInBounds_toArray, List.set_cons_zero, List.set_cons_succ]
        refine wpAnyH_ready (rs := [13]) (by kernel_rfl) (by simp) (AllReadyH.cons rfl (fun Kq hKq => ?_) AllReadyH.nil)
        go_simp
        refine hKq.out _ _ ?_ (fun hHeld => ?_)
        · exact sc_of (by omega) (by go_grown)
        clear hKq Kq
        try simp only [Act.put, List.getElem_toArray, List.getElem_cons_zero, List.getElem_cons_succ, List.setIfInBounds_toArray, List.set_cons_zero, List.set_cons_succ]
        refine wpAnyH_done (by kernel_rfl) ?_ _
        clear hHeld
        go_wp2_with fail
        refine bodyPost_ret (v := .agg #[(.slice A0' n1 e0), (.slice A1' n2 e1), (.slice A2' n3 e2)]) ?_ rfl ⟨_, _, _, rfl, ?_, ?_⟩
        · simp (maxDischargeDepth := 9) [results, Try.results63, go_sem, *]
        · exact ⟨own_mono (ownSet (ownSet (ownSet HO0_2.out hl2 _ _) hl2 _ _) hl2 _ _) (Nat.le_of_eq HZ.out.symm), own_mono (ownSet (ownSet (ownSet HO1_2.out hl2 _ _) hl2 _ _) hl2 _ _) (Nat.le_of_eq HZ.out.symm), own_mono (ownSet (ownSet (ownSet HO2.out hl2 _ _) hl2 _ _) hl2 _ _) (Nat.le_of_eq HZ.out.symm)⟩
        · exact ((Below.setCell (Below.trans HB1.out (hk2.mono HB1.out.size)) (by show w.heap.size ≤ w.heap.size + 1; omega) _).setCell (by show w.heap.size ≤ w.heap.size + 1; omega) _).setCell (by show w.heap.size ≤ w.heap.size + 1; omega) _
    · go_simp
      refine hKq.out _ _ ?_ (fun hHeld => ?_)
      · exact sc_of (by omega) (by go_grown)
      clear hKq Kq
      try simp only [Act.put, List.getElem_toArray, List.getElem_cons_zero, List.getElem_cons_succ, List.setIfInBounds_toArray, List.set_cons_zero, List.set_cons_succ]
      refine wpAnyH_ready (rs := [0]) (by kernel_rfl) (by simp) (AllReadyH.cons rfl (fun Kq hKq => ?_) (AllReadyH.nil))
      go_simp
      refine hKq.out _ _ ?_ (fun hHeld => ?_)
      · exact sc_of (by omega) (by go_grown)
      clear hKq Kq
      try simp only [Act.put, List.getElem_toArray, List.getElem_cons_zero, List.getElem_cons_succ, List.setIfInBounds_toArray, List.set_cons_zero, List.set_cons_succ]
      refine wpAnyH_ready (rs := [3]) (by kernel_rfl) (by simp) (AllReadyH.cons rfl (fun Kq hKq => ?_) (AllReadyH.nil))
      refine step_copy4_fi (by rfl) _ _ (by rfl) w1.heap.size _ ?b2 ?b3 (by rfl) (by rfl) HN1.out HZ1.out ?b4 (by omega) ?_
      case b2 => first | (simp; done) | omega | (simp; omega)
      case b3 => first | (refine blk_at ?_; simp; done) | (refine block_old (blk_at ?_); simp; done) | (refine block_old (block_old (blk_at ?_)); simp; done)
      case b4 => exact HR1.out.below (Below.trans HB1.out (Below.mono (B := w1.heap.size) (by go_grown) HB1.out.size))
      intro A0' e0 v0 hO0 hw0
      have HO0 : Hid (v0.ownsRow w1.heap.size 75 2 (.slice A0' n1 e0) n1 (flat fiL d.live)) := hO0
      have hq0 := fun q o (hh : _ = some o) => (hw0.block q (Array.getElem?_eq_some_iff.1 hh).1).trans hh
      have hk0 : Below w1.heap.size w1 v0 := Below.trans (by go_grown) (hw0.mono (by first | (simp; done) | (simp; omega) | go_size))
      have hs0 := hk0.size
      have hkk0 : Below (w.heap.size + 1) w1 v0 := hk0.mono (by omega)
      clear hO0 hw0
      refine hKq.out _ _ ?_ (fun hHeld => ?_)
      · exact sc_of (by omega) (by go_grown)
      clear hKq Kq
      try simp only [Act.put, List.getElem_toArray, List.getElem_cons_zero, List.getElem_cons_succ, List.setIfInBounds_toArray, List.set_cons_zero, List.set_cons_succ]
      refine wpAnyH_ready (rs := [7]) (by kernel_rfl) (by simp) (AllReadyH.cons rfl (fun Kq hKq => ?_) (AllReadyH.nil))
      refine step_copy4_fi (by rfl) _ _ (by rfl) w1.heap.size _ ?b2 ?b3 (by rfl) (by rfl) HN2.out HZ2.out ?b4 (by omega) ?_
      case b2 => first | (simp; done) | omega | (simp; omega)
      case b3 => first | (refine blk_at ?_; simp; done) | (refine block_old (blk_at ?_); simp; done) | (refine block_old (block_old (blk_at ?_)); simp; done) | (refine hq0 _ _ ?_; (first | (refine blk_at ?_; simp; done) | (refine block_old (blk_at ?_); simp; done) | (refine block_old (block_old (blk_at ?_)); simp; done))) | (refine block_old ?_; (refine hq0 _ _ ?_; (first | (refine blk_at ?_; simp; done) | (refine block_old (blk_at ?_); simp; done) | (refine block_old (block_old (blk_at ?_)); simp; done)))) | (refine block_old (block_old ?_); (refine hq0 _ _ ?_; (first | (refine blk_at ?_; simp; done) | (refine block_old (blk_at ?_); simp; done) | (refine block_old (block_old (blk_at ?_)); simp; done))))
      case b4 => exact HR2.out.below (Below.trans HB1.out (Below.mono (B := w1.heap.size) (by go_grown) HB1.out.size))
      intro A1' e1 v1 hO1 hw1
      have HO1 : Hid (v1.ownsRow w1.heap.size 75 2 (.slice A1' n2 e1) n2 (flat fiL d.safe)) := hO1
      have hq1 := fun q o (hh : _ = some o) => (hw1.block q (Array.getElem?_eq_some_iff.1 hh).1).trans hh
      have hk1 : Below w1.heap.size w1 v1 := Below.trans (by go_grown) (hw1.mono (by first | (simp; done) | (simp; omega) | go_size))
      have hs1 := hk1.size
      have hkk1 : Below (w.heap.size + 1) w1 v1 := hk1.mono (by omega)
      have HO0_1 : Hid (v1.ownsRow w1.heap.size 75 2 (.slice A0' n1 e0) n1 (flat fiL d.live)) := own_below (own_below HO0.out (by go_grown)) hw1
      clear hO1 hw1
      refine hKq.out _ _ ?_ (fun hHeld => ?_)
      · exact sc_of (by omega) (by go_grown)
      clear hKq Kq
      try simp only [Act.put, List.getElem_toArray, List.getElem_cons_zero, List.getElem_cons_succ, List.setIfInBounds_toArray, List.set_cons_zero, List.set_cons_succ]
      refine wpAnyH_ready (rs := [11]) (by kernel_rfl) (by simp) (AllReadyH.cons rfl (fun Kq hKq => ?_) (AllReadyH.nil))
      refine step_copy4_dp (by rfl) _ _ (by rfl) w1.heap.size _ ?b2 ?b3 (by rfl) (by rfl) HN3.out HZ3.out ?b4 (by omega) ?_
      case b2 => first | (simp; done) | omega | (simp; omega)
      case b3 => first | (refine blk_at ?_; simp; done) | (refine block_old (blk_at ?_); simp; done) | (refine block_old (block_old (blk_at ?_)); simp; done) | (refine hq1 _ _ ?_; (first | (refine blk_at ?_; simp; done) | (refine block_old (blk_at ?_); simp; done) | (refine block_old (block_old (blk_at ?_)); simp; done) | (refine hq0 _ _ ?_; (first | (refine blk_at ?_; simp; done) | (refine block_old (blk_at ?_); simp; done) | (refine block_old (block_old (blk_at ?_)); simp; done))) | (refine block_old ?_; (refine hq0 _ _ ?_; (first | (refine blk_at ?_; simp; done) | (refine block_old (blk_at ?_); simp; done) | (refine block_old (block_old (blk_at ?_)); simp; done)))) | (refine block_old (block_old ?_); (refine hq0 _ _ ?_; (first | (refine blk_at ?_; simp; done) | (refine block_old (blk_at ?_); simp; done) | (refine block_old (block_old (blk_at ?_)); simp; done)))))) | (refine block_old ?_; (refine hq1 _ _ ?_; (first | (refine blk_at ?_; simp; done) | (refine block_old (blk_at ?_); simp; done) | (refine block_old (block_old (blk_at ?_)); simp; done) | (refine hq0 _ _ ?_; (first | (refine blk_at ?_; simp; done) | (refine block_old (blk_at ?_); simp; done) | (refine block_old (block_old (blk_at ?_)); simp; done))) | (refine block_old ?_; (refine hq0 _ _ ?_; (first | (refine blk_at ?_; simp; done) | (refine block_old (blk_at ?_); simp; done) | (refine block_old (block_old (blk_at ?_)); simp; done)))) | (refine block_old (block_old ?_); (refine hq0 _ _ ?_; (first | (refine blk_at ?_; simp; done) | (refine block_old (blk_at ?_); simp; done) | (refine block_old (block_old (blk_at ?_)); simp; done))))))) | (refine block_old (block_old ?_); (refine hq1 _ _ ?_; (first | (refine blk_at ?_; simp; done) | (refine block_old (blk_at ?_); simp; done) | (refine block_old (block_old (blk_at ?_)); simp; done) | (refine hq0 _ _ ?_; (first | (refine blk_at ?_; simp; done) | (refine block_old (blk_at ?_); simp; done) | (refine block_old (block_old (blk_at ?_)); simp; done))) | (refine block_old ?_; (refine hq0 _ _ ?_; (first | (refine blk_at ?_; simp; done) | (refine block_old (blk_at ?_); simp; done) | (refine block_old (block_old (blk_at ?_)); simp; done)))) | (refine block_old (block_old ?_); (refine hq0 _ _ ?_; (first | (refine blk_at ?_; simp; done) | (refine block_old (blk_at ?_); simp; done) | (refine block_old (block_old (blk_at ?_)); simp; done)))))))
      case b4 => exact HR3.out.below (Below.trans HB1.out (Below.mono (B := w1.heap.size) (by go_grown) HB1.out.size))
      intro A2' e2 v2 hO2 hw2
      have HO2 : Hid (v2.ownsRow w1.heap.size 36 4 (.slice A2' n3 e2) n3 (flat dpL d.ops)) := hO2
      have hq2 := fun q o (hh : _ = some o) => (hw2.block q (Array.getElem?_eq_some_iff.1 hh).1).trans hh
      have hk2 : Below w1.heap.size w1 v2 := Below.trans (by go_grown) (hw2.mono (by first | (simp; done) | (simp; omega) | go_size))
      have hs2 := hk2.size
      have hkk2 : Below (w.heap.size + 1) w1 v2 := hk2.mono (by omega)
      have HO0_2 : Hid (v2.ownsRow w1.heap.size 75 2 (.slice A0' n1 e0) n1 (flat fiL d.live)) := own_below (own_below HO0_1.out (by go_grown)) hw2
      have HO1_2 : Hid (v2.ownsRow w1.heap.size 75 2 (.slice A1' n2 e1) n2 (flat fiL d.safe)) := own_below (own_below HO1.out (by go_grown)) hw2
      clear hO2 hw2
      refine hKq.out _ _ ?_ (fun hHeld => ?_)
      · exact sc_of (by omega) (by go_grown)
      clear hKq Kq
      try simp only [Act.put, List.getElem_toArray, List.getElem_cons_zero, List.getElem_cons_succ, List.setIfInBounds_toArray, List.set_cons_zero, List.set_cons_succ]
      have pp0 : v2.cell? ⟨w.heap.size + 1, 0, none⟩ = some (.slice none 0 0) := (hk2.cell (p := ⟨w.heap.size + 1, 0, none⟩) hl2).trans p0
      have pp1 : v2.cell? ⟨w.heap.size + 1, 1, none⟩ = some (.slice none 0 0) := (hk2.cell (p := ⟨w.heap.size + 1, 1, none⟩) hl2).trans p1
      have pp2 : v2.cell? ⟨w.heap.size + 1, 2, none⟩ = some (.slice none 0 0) := (hk2.cell (p := ⟨w.heap.size + 1, 2, none⟩) hl2).trans p2
      have ppf : ∀ o, v2.frozen? ⟨w.heap.size + 1, o, none⟩ = false := fun o => (hk2.frozen (p := ⟨w.heap.size + 1, o, none⟩) hl2).trans (pf o)
      have mm : w.heap.size + 1 < v2.heap.size := by omega
      refine wpAnyH_take (i := 12) (v := ?_) rfl (by kernel_rfl) (by kernel_rfl) (by kernel_rfl) (fun _ _ _ h => h) (Or.inl ⟨by rfl, ?_⟩) (by assumption) ?_
      rotate_left
      · (intro wq hSw; (try dsimp only at hSw); go_simp <;> with_reducible rfl)
      try simp only [Act.put, List.getElem_toArray, List.getElem_cons_zero, List.getElem_cons_succ, List.setIfInBounds_toArray, List.set_cons_zero, List.set_cons_succ]
      refine wpAnyH_ready (rs := [13]) (by kernel_rfl) (by simp) (AllReadyH.cons rfl (fun Kq hKq => ?_) AllReadyH.nil)
      go_simp
      refine hKq.out _ _ ?_ (fun hHeld => ?_)
      · exact sc_of (by omega) (by go_grown)
      clear hKq Kq
      try simp only [Act.put, List.getElem_toArray, List.getElem_cons_zero, List.getElem_cons_succ, List.setIfInBounds_toArray, List.set_cons_zero, List.set_cons_succ]
      refine wpAnyH_done (by kernel_rfl) ?_ _
      clear hHeld
      go_wp2_with fail
      refine bodyPost_ret (v := .agg #[(.slice A0' n1 e0), (.slice A1' n2 e1), (.slice A2' n3 e2)]) ?_ rfl ⟨_, _, _, rfl, ?_, ?_⟩
      · simp (maxDischargeDepth := 9) [results, Try.results63, go_sem, *]
      · exact ⟨own_mono (ownSet (ownSet (ownSet HO0_2.out hl2 _ _) hl2 _ _) hl2 _ _) (Nat.le_of_eq HZ.out.symm), own_mono (ownSet (ownSet (ownSet HO1_2.out hl2 _ _) hl2 _ _) hl2 _ _) (Nat.le_of_eq HZ.out.symm), own_mono (ownSet (ownSet (ownSet HO2.out hl2 _ _) hl2 _ _) hl2 _ _) (Nat.le_of_eq HZ.out.symm)⟩
      · exact ((Below.setCell (Below.trans HB1.out (hk2.mono HB1.out.size)) (by show w.heap.size ≤ w.heap.size + 1; omega) _).setCell (by show w.heap.size ≤ w.heap.size + 1; omega) _).setCell (by show w.heap.size ≤ w.heap.size + 1; omega) _
  · go_simp
    refine hKq.out _ _ ?_ (fun hHeld => ?_)
    · exact sc_of (by omega) (by go_grown)
    clear hKq Kq
    try simp only [Act.put, List.getElem_toArray, List.getElem_cons_zero, List.getElem_cons_succ, List.setIfInBounds_toArray, List.set_cons_zero, List.set_cons_succ]
    refine wpAnyH_ready (rs := [0, 4]) (by kernel_rfl) (by simp) (AllReadyH.cons rfl (fun Kq hKq => ?_) (AllReadyH.cons rfl (fun Kq hKq => ?_) (AllReadyH.nil)))
    · go_simp
      refine hKq.out _ _ ?_ (fun hHeld => ?_)
      · exact sc_of (by omega) (by go_grown)
      clear hKq Kq
      try simp only [Act.put, List.getElem_toArray, List.getElem_cons_zero, List.getElem_cons_succ, List.setIfInBounds_toArray, List.set_cons_zero, List.set_cons_succ]
      refine wpAnyH_ready (rs := [3, 4]) (by kernel_rfl) (by simp) (AllReadyH.cons rfl (fun Kq hKq => ?_) (AllReadyH.cons rfl (fun Kq hKq => ?_) (AllReadyH.nil)))
      · refine step_copy4_fi (by rfl) _ _ (by rfl) w1.heap.size _ ?b2 ?b3 (by rfl) (by rfl) HN1.out HZ1.out ?b4 (by omega) ?_
        case b2 => first | (simp; done) | omega | (simp; omega)
        case b3 => first | (refine blk_at ?_; simp; done) | (refine block_old (blk_at ?_); simp; done) | (refine block_old (block_old (blk_at ?_)); simp; done)
        case b4 => exact HR1.out.below (Below.trans HB1.out (Below.mono (B := w1.heap.size) (by go_grown) HB1.out.size))
        intro A0' e0 v0 hO0 hw0
        have HO0 : Hid (v0.ownsRow w1.heap.size 75 2 (.slice A0' n1 e0) n1 (flat fiL d.live)) := hO0
        have hq0 := fun q o (hh : _ = some o) => (hw0.block q (Array.getElem?_eq_some_iff.1 hh).1).trans hh
        have hk0 : Below w1.heap.size w1 v0 := Below.trans (by go_grown) (hw0.mono (by first | (simp; done) | (simp; omega) | go_size))
        have hs0 := hk0.size
        have hkk0 : Below (w.heap.size + 1) w1 v0 := hk0.mono (by omega)
        clear hO0 hw0
        refine hKq.out _ _ ?_ (fun hHeld => ?_)
        · exact sc_of (by omega) (by go_grown)
        clear hKq Kq
        try simp only [Act.put, List.getElem_toArray, List.getElem_cons_zero, List.getElem_cons_succ, List.setIfInBounds_toArray, List.set_cons_zero, List.set_cons_succ]
        refine wpAnyH_ready (rs := [4]) (by kernel_rfl) (by simp) (AllReadyH.cons rfl (fun Kq hKq => ?_) (AllReadyH.nil))
        go_simp
        refine hKq.out _ _ ?_ (fun hHeld => ?_)
        · exact sc_of (by omega) (by go_grown)
        clear hKq Kq
        try simp only [Act.put, List.getElem_toArray, List.getElem_cons_zero, List.getElem_cons_succ, List.setIfInBounds_toArray, List.set_cons_zero, List.set_cons_succ]
        refine wpAnyH_ready (rs := [7]) (by kernel_rfl) (by simp) (AllReadyH.cons rfl (fun Kq hKq => ?_) (AllReadyH.nil))
        refine step_copy4_fi (by rfl) _ _ (by rfl) w1.heap.size _ ?b2 ?b3 (by rfl) (by rfl) HN2.out HZ2.out ?b4 (by omega) ?_
        case b2 => first | (simp; done) | omega | (simp; omega)
        case b3 => first | (refine blk_at ?_; simp; done) | (refine block_old (blk_at ?_); simp; done) | (refine block_old (block_old (blk_at ?_)); simp; done) | (refine hq0 _ _ ?_; (first | (refine blk_at ?_; simp; done) | (refine block_old (blk_at ?_); simp; done) | (refine block_old (block_old (blk_at ?_)); simp; done))) | (refine block_old ?_; (refine hq0 _ _ ?_; (first | (refine blk_at ?_; simp; done) | (refine block_old (blk_at ?_); simp; done) | (refine block_old (block_old (blk_at ?_)); simp; done)))) | (refine block_old (block_old ?_); (refine hq0 _ _ ?_; (first | (refine blk_at ?_; simp; done) | (refine block_old (blk_at ?_); simp; done) | (refine block_old (block_old (blk_at ?_)); simp; done))))
        case b4 => exact HR2.out.below (Below.trans HB1.out (Below.mono (B := w1.heap.size) (by go_grown) HB1.out.size))
        intro A1' e1 v1 hO1 hw1
        have HO1 : Hid (v1.ownsRow w1.heap.size 75 2 (.slice A1' n2 e1) n2 (flat fiL d.safe)) := hO1
        have hq1 := fun q o (hh : _ = some o) => (hw1.block q (Array.getElem?_eq_some_iff.1 hh).1).trans hh
        have hk1 : Below w1.heap.size w1 v1 := Below.trans (by go_grown) (hw1.mono (by first | (simp; done) | (simp; omega) | go_size))
        have hs1 := hk1.size
        have hkk1 : Below (w.heap.size + 1) w1 v1 := hk1.mono (by omega)
        have HO0_1 : Hid (v1.ownsRow w1.heap.size 75 2 (.slice A0' n1 e0) n1 (flat fiL d.live)) := own_below (own_below HO0.out (by go_grown)) hw1
        clear hO1 hw1
        refine hKq.out _ _ ?_ (fun hHeld => ?_)
        · exact sc_of (by omega) (by go_grown)
        clear hKq Kq
        try simp only [Act.put, List.getElem_toArray, List.getElem_cons_zero, List.getElem_cons_succ, List.setIfInBounds_toArray, List.set_cons_zero, List.set_cons_succ]
        refine wpAnyH_ready (rs := [11]) (by kernel_rfl) (by simp) (AllReadyH.cons rfl (fun Kq hKq => ?_) (AllReadyH.nil))
        refine step_copy4_dp (by rfl) _ _ (by rfl) w1.heap.size _ ?b2 ?b3 (by rfl) (by rfl) HN3.out HZ3.out ?b4 (by omega) ?_
        case b2 => first | (simp; done) | omega | (simp; omega)
        case b3 => first | (refine blk_at ?_; simp; done) | (refine block_old (blk_at ?_); simp; done) | (refine block_old (block_old (blk_at ?_)); simp; done) | (refine hq1 _ _ ?_; (first | (refine blk_at ?_; simp; done) | (refine block_old (blk_at ?_); simp; done) | (refine block_old (block_old (blk_at ?_)); simp; done) | (refine hq0 _ _ ?_; (first | (refine blk_at ?_; simp; done) | (refine block_old (blk_at ?_); simp; done) | (refine block_old (block_old (blk_at ?_)); simp; done))) | (refine block_old ?_; (refine hq0 _ _ ?_; (first | (refine blk_at ?_; simp; done) | (refine block_old (blk_at ?_); simp; done) | (refine block_old (block_old (blk_at ?_)); simp; done)))) | (refine block_old (block_old ?_); (refine hq0 _ _ ?_; (first | (refine blk_at ?_; simp; done) | (refine block_old (blk_at ?_); simp; done) | (refine block_old (block_old (blk_at ?_)); simp; done)))))) | (refine block_old ?_; (refine hq1 _ _ ?_; (first | (refine blk_at ?_; simp; done) | (refine block_old (blk_at ?_); simp; done) | (refine block_old (block_old (blk_at ?_)); simp; done) | (refine hq0 _ _ ?_; (first | (refine blk_at ?_; simp; done) | (refine block_old (blk_at ?_); simp; done) | (refine block_old (block_old (blk_at ?_)); simp; done))) | (refine block_old ?_; (refine hq0 _ _ ?_; (first | (refine blk_at ?_; simp; done) | (refine block_old (blk_at ?_); simp; done) | (refine block_old (block_old (blk_at ?_)); simp; done)))) | (refine block_old (block_old ?_); (refine hq0 _ _ ?_; (first | (refine blk_at ?_; simp; done) | (refine block_old (blk_at ?_); simp; done) | (refine block_old (block_old (blk_at ?_)); simp; done))))))) | (refine block_old (block_old ?_); (refine hq1 _ _ ?_; (first | (refine blk_at ?_; simp; done) | (refine block_old (blk_at ?_); simp; done) | (refine block_old (block_old (blk_at ?_)); simp; done) | (refine hq0 _ _ ?_; (first | (refine blk_at ?_; simp; done) | (refine block_old (blk_at ?_); simp; done) | (refine block_old (block_old (blk_at ?_)); simp; done))) | (refine block_old ?_; (refine hq0 _ _ ?_; (first | (refine blk_at ?_; simp; done) | (refine block_old (blk_at ?_); simp; done) | (refine block_old (block_old (blk_at ?_)); simp; done)))) | (refine block_old (block_old ?_); (refine hq0 _ _ ?_; (first | (refine blk_at ?_; simp; done) | (refine block_old (blk_at ?_); simp; done) | (refine block_old (block_old (blk_at ?_)); simp; done)))))))
        case b4 => exact HR3.out.below (Below.trans HB1.out (Below.mono (B := w1.heap.size) (by go_grown) HB1.out.size))
        intro A2' e2 v2 hO2 hw2
        have HO2 : Hid (v2.ownsRow w1.heap.size 36 4 (.slice A2' n3 e2) n3 (flat dpL d.ops)) := hO2
        have hq2 := fun q o (hh : _ = some o) => (hw2.block q (Array.getElem?_eq_some_iff.1 hh).1).trans hh
        have hk2 : Below w1.heap.size w1 v2 := Below.trans (by go_grown) (hw2.mono (by first | (simp; done) | (simp; omega) | go_size))
        have hs2 := hk2.size
        have hkk2 : Below (w.heap.size + 1) w1 v2 := hk2.mono (by omega)
        have HO0_2 : Hid (v2.ownsRow w1.heap.size 75 2 (.slice A0' n1 e0) n1 (flat fiL d.live)) := own_below (own_below HO0_1.out (by go_grown)) hw2
        have HO1_2 : Hid (v2.ownsRow w1.heap.size 75 2 (.slice A1' n2 e1) n2 (flat fiL d.safe)) := own_below (own_below HO1.out (by go_grown)) hw2
        clear hO2 hw2
        refine hKq.out _ _ ?_ (fun hHeld => ?_)
        · exact sc_of (by omega) (by go_grown)
        clear hKq Kq
        try simp only [Act.put, List.getElem_toArray, List.getElem_cons_zero, List.getElem_cons_succ, List.setIfInBounds_toArray, List.set_cons_zero, List.set_cons_succ]
        have pp0 : v2.cell? ⟨w.heap.size + 1, 0, none⟩ = some (.slice none 0 0) := (hk2.cell (p := ⟨w.heap.size + 1, 0, none⟩) hl2).trans p0
        have pp1 : v2.cell? ⟨w.heap.size + 1, 1, none⟩ = some (.slice none 0 0) := (hk2.cell (p := ⟨w.heap.size + 1, 1, none⟩) hl2).trans p1
        have pp2 : v2.cell? ⟨w.heap.size + 1, 2, none⟩ = some (.slice none 0 0) := (hk2.cell (p := ⟨w.heap.size + 1, 2, none⟩) hl2).trans p2
        have ppf : ∀ o, v2.frozen? ⟨w.heap.size + 1, o, none⟩ = false := fun o => (hk2.frozen (p := ⟨w.heap.size + 1, o, none⟩) hl2).trans (pf o)
        have mm : w.heap.size + 1 < v2.heap.size := by omega
        refine wpAnyH_take (i := 12) (v := ?_) rfl (by kernel_rfl) (by kernel_rfl) (by kernel_rfl) (fun _ _ _ h => h) (Or.inl ⟨by rfl, ?_⟩) (by assumption) ?_
        rotate_left
        · (intro wq hSw; (try dsimp only at hSw); go_simp <;> with_reducible rfl)
        try simp only [Act.put, List.getElem_toArray, List.getElem_cons_zero, List.getElem_cons_succ, List.setIfInBounds_toArray, List.set_cons_zero, List.set_cons_succ]
        refine wpAnyH_ready (rs := [13]) (by kernel_rfl) (by simp) (AllReadyH.cons rfl (fun Kq hKq => ?_) AllReadyH.nil)
        go_simp
        refine hKq.out _ _ ?_ (fun hHeld => ?_)
        · exact sc_of (by omega) (by go_grown)
        clear hKq Kq
        try simp only [Act.put, List.getElem_toArray, List.getElem_cons_zero, List.getElem_cons_succ, List.setIfInBounds_toArray, List.set_cons_zero, List.set_cons_succ]
        refine wpAnyH_done (by kernel_rfl) ?_ _
        clear hHeld
        go_wp2_with fail
        refine bodyPost_ret (v := .agg #[(.slice A0' n1 e0), (.slice A1' n2 e1), (.slice A2' n3 e2)]) ?_ rfl ⟨_, _, _, rfl, ?_, ?_⟩
        · simp (maxDischargeDepth := 9) [results, Try.results63, go_sem, *]
        · exact ⟨own_mono (ownSet (ownSet (ownSet HO0_2.out hl2 _ _) hl2 _ _) hl2 _ _) (Nat.le_of_eq HZ.out.symm), own_mono (ownSet (ownSet (ownSet HO1_2.out hl2 _ _) hl2 _ _) hl2 _ _) (Nat.le_of_eq HZ.out.symm), own_mono (ownSet (ownSet (ownSet HO2.out hl2 _ _) hl2 _ _) hl2 _ _) (Nat.le_of_eq HZ.out.symm)⟩
        · exact ((Below.setCell (Below.trans HB1.out (hk2.mono HB1.out.size)) (by show w.heap.size ≤ w.heap.size + 1; omega) _).setCell (by show w.heap.size ≤ w.heap.size + 1; omega) _).setCell (by show w.heap.size ≤ w.heap.size + 1; omega) _
      · go_simp
        refine hKq.out _ _ ?_ (fun hHeld => ?_)
        · exact sc_of (by omega) (by go_grown)
        clear hKq Kq
        try simp only [Act.put, List.getElem_toArray, List.getElem_cons_zero, List.getElem_cons_succ, List.setIfInBounds_toArray, List.set_cons_zero, List.set_cons_succ]
        refine wpAnyH_ready (rs := [3]) (by kernel_rfl) (by simp) (AllReadyH.cons rfl (fun Kq hKq => ?_) (AllReadyH.nil))
        refine step_copy4_fi (by rfl) _ _ (by rfl) w1.heap.size _ ?b2 ?b3 (by rfl) (by rfl) HN1.out HZ1.out ?b4 (by omega) ?_
        case b2 => first | (simp; done) | omega | (simp; omega)
        case b3 => first | (refine blk_at ?_; simp; done) | (refine block_old (blk_at ?_); simp; done) | (refine block_old (block_old (blk_at ?_)); simp; done)
        case b4 => exact HR1.out.below (Below.trans HB1.out (Below.mono (B := w1.heap.size) (by go_grown) HB1.out.size))
        intro A0' e0 v0 hO0 hw0
        have HO0 : Hid (v0.ownsRow w1.heap.size 75 2 (.slice A0' n1 e0) n1 (flat fiL d.live)) := hO0
        have hq0 := fun q o (hh : _ = some o) => (hw0.block q (Array.getElem?_eq_some_iff.1 hh).1).trans hh
        have hk0 : Below w1.heap.size w1 v0 := Below.trans (by go_grown) (hw0.mono (by first | (simp; done) | (simp; omega) | go_size))
        have hs0 := hk0.size
        have hkk0 : Below (w.heap.size + 1) w1 v0 := hk0.mono (by omega)
        clear hO0 hw0
        refine hKq.out _ _ ?_ (fun hHeld => ?_)
        · exact sc_of (by omega) (by go_grown)
        clear hKq Kq
        try simp only [Act.put, List.getElem_toArray, List.getElem_cons_zero, List.getElem_cons_succ, List.setIfInBounds_toArray, List.set_cons_zero, List.set_cons_succ]
        refine wpAnyH_ready (rs := [7]) (by kernel_rfl) (by simp) (AllReadyH.cons rfl (fun Kq hKq => ?_) (AllReadyH.nil))
        refine step_copy4_fi (by rfl) _ _ (by rfl) w1.heap.size _ ?b2 ?b3 (by rfl) (by rfl) HN2.out HZ2.out ?b4 (by omega) ?_
        case b2 => first | (simp; done) | omega | (simp; omega)
        case b3 => first | (refine blk_at ?_; simp; done) | (refine block_old (blk_at ?_); simp; done) | (refine block_old (block_old (blk_at ?_)); simp; done) | (refine hq0 _ _ ?_; (first | (refine blk_at ?_; simp; done) | (refine block_old (blk_at ?_); simp; done) | (refine block_old (block_old (blk_at ?_)); simp; done))) | (refine block_old ?_; (refine hq0 _ _ ?_; (first | (refine blk_at ?_; simp; done) | (refine block_old (blk_at ?_); simp; done) | (refine block_old (block_old (blk_at ?_)); simp; done)))) | (refine block_old (block_old ?_); (refine hq0 _ _ ?_; (first | (refine blk_at ?_; simp; done) | (refine block_old (blk_at ?_); simp; done) | (refine block_old (block_old (blk_at ?_)); simp; done))))
        case b4 => exact HR2.out.below (Below.trans HB1.out (Below.mono (B := w1.heap.size) (by go_grown) HB1.out.size))
        intro A1' e1 v1 hO1 hw1
        have HO1 : Hid (v1.ownsRow w1.heap.size 75 2 (.slice A1' n2 e1) n2 (flat fiL d.safe)) := hO1
        have hq1 := fun q o (hh : _ = some o) => (hw1.block q (Array.getElem?_eq_some_iff.1 hh).1).trans hh
        have hk1 : Below w1.heap.size w1 v1 := Below.trans (by go_grown) (hw1.mono (by first | (simp; done) | (simp; omega) | go_size))
        have hs1 := hk1.size
        have hkk1 : Below (w.heap.size + 1) w1 v1 := hk1.mono (by omega)
        have HO0_1 : Hid (v1.ownsRow w1.heap.size 75 2 (.slice A0' n1 e0) n1 (flat fiL d.live)) := own_below (own_below HO0.out (by go_grown)) hw1
        clear hO1 hw1
        refine hKq.out _ _ ?_ (fun hHeld => ?_)
        · exact sc_of (by omega) (by go_grown)
        clear hKq Kq
        try simp only [Act.put, List.getElem_toArray, List.getElem_cons_zero, List.getElem_cons_succ, List.setIfInBounds_toArray, List.set_cons_zero, List.set_cons_succ]
        refine wpAnyH_ready (rs := [11]) (by kernel_rfl) (by simp) (AllReadyH.cons rfl (fun Kq hKq => ?_) (AllReadyH.nil))
        refine step_copy4_dp (by rfl) _ _ (by rfl) w1.heap.size _ ?b2 ?b3 (by rfl) (by rfl) HN3.out HZ3.out ?b4 (by omega) ?_
        case b2 => first | (simp; done) | omega | (simp; omega)
        case b3 => first | (refine blk_at ?_; simp; done) | (refine block_old (blk_at ?_); simp; done) | (refine block_old (block_old (blk_at ?_)); simp; done) | (refine hq1 _ _ ?_; (first | (refine blk_at ?_; simp; done) | (refine block_old (blk_at ?_); simp; done) | (refine block_old (block_old (blk_at ?_)); simp; done) | (refine hq0 _ _ ?_; (first | (refine blk_at ?_; simp; done) | (refine block_old (blk_at ?_); simp; done) | (refine block_old (block_old (blk_at ?_)); simp; done))) | (refine block_old ?_; (refine hq0 _ _ ?_; (first | (refine blk_at ?_; simp; done) | (refine block_old (blk_at ?_); simp; done) | (refine block_old (block_old (blk_at ?_)); simp; done)))) | (refine block_old (block_old ?_); (refine hq0 _ _ ?_; (first | (refine blk_at ?_; simp; done) | (refine block_old (blk_at ?_); simp; done) | (refine block_old (block_old (blk_at ?_)); simp; done)))))) | (refine block_old ?_; (refine hq1 _ _ ?_; (first | (refine blk_at ?_; simp; done) | (refine block_old (blk_at ?_); simp; done) | (refine block_old (block_old (blk_at ?_)); simp; done) | (refine hq0 _ _ ?_; (first | (refine blk_at ?_; simp; done) | (refine block_old (blk_at ?_); simp; done) | (refine block_old (block_old (blk_at ?_)); simp; done))) | (refine block_old ?_; (refine hq0 _ _ ?_; (first | (refine blk_at ?_; simp; done) | (refine block_old (blk_at ?_); simp; done) | (refine block_old (block_old (blk_at ?_)); simp; done)))) | (refine block_old (block_old ?_); (refine hq0 _ _ ?_; (first | (refine blk_at ?_; simp; done) | (refine block_old (blk_at ?_); simp; done) | (refine block_old (block_old (blk_at ?_)); simp; done))))))) | (refine block_old (block_old ?_); (refine hq1 _ _ ?_; (first | (refine blk_at ?_; simp; done) | (refine block_old (blk_at ?_); simp; done) | (refine block_old (block_old (blk_at ?_)); simp; done) | (refine hq0 _ _ ?_; (first | (refine blk_at ?_; simp; done) | (refine block_old (blk_at ?_); simp; done) | (refine block_old (block_old (blk_at ?_)); simp; done))) | (refine block_old ?_; (refine hq0 _ _ ?_; (first | (refine blk_at ?_; simp; done) | (refine block_old (blk_at ?_); simp; done) | (refine block_old (block_old (blk_at ?_)); simp; done)))) | (refine block_old (block_old ?_); (refine hq0 _ _ ?_; (first | (refine blk_at ?_; simp; done) | (refine block_old (blk_at ?_); simp; done) | (refine block_old (block_old (blk_at ?_)); simp; done)))))))
        case b4 => exact HR3.out.below (Below.trans HB1.out (Below.mono (B := w1.heap.size) (by go_grown) HB1.out.size))
        intro A2' e2 v2 hO2 hw2
        have HO2 : Hid (v2.ownsRow w1.heap.size 36 4 (.slice A2' n3 e2) n3 (flat dpL d.ops)) := hO2
        have hq2 := fun q o (hh : _ = some o) => (hw2.block q (Array.getElem?_eq_some_iff.1 hh).1).trans hh
        have hk2 : Below w1.heap.size w1 v2 := Below.trans (by go_grown) (hw2.mono (by first | (simp; done) | (simp; omega) | go_size))
        have hs2 := hk2.size
        have hkk2 : Below (w.heap.size + 1) w1 v2 := hk2.mono (by omega)
        have HO0_2 : Hid (v2.ownsRow w1.heap.size 75 2 (.slice A0' n1 e0) n1 (flat fiL d.live)) := own_below (own_below HO0_1.out (by go_grown)) hw2
        have HO1_2 : Hid (v2.ownsRow w1.heap.size 75 2 (.slice A1' n2 e1) n2 (flat fiL d.safe)) := own_below (own_below HO1.out (by go_grown)) hw2
        clear hO2 hw2
        refine hKq.out _ _ ?_ (fun hHeld => ?_)
        · exact sc_of (by omega) (by go_grown)
        clear hKq Kq
        try simp only [Act.put, List.getElem_toArray, List.getElem_cons_zero, List.getElem_cons_succ, List.setIfInBounds_toArray, List.set_cons_zero, List.set_cons_succ]
        have pp0 : v2.cell? ⟨w.heap.size + 1, 0, none⟩ = some (.slice none 0 0) := (hk2.cell (p := ⟨w.heap.size + 1, 0, none⟩) hl2).trans p0
        have pp1 : v2.cell? ⟨w.heap.size + 1, 1, none⟩ = some (.slice none 0 0) := (hk2.cell (p := ⟨w.heap.size + 1, 1, none⟩) hl2).trans p1
        have pp2 : v2.cell? ⟨w.heap.size + 1, 2, none⟩ = some (.slice none 0 0) := (hk2.cell (p := ⟨w.heap.size + 1, 2, none⟩) hl2).trans p2
        have ppf : ∀ o, v2.frozen? ⟨w.heap.size + 1, o, none⟩ = false := fun o => (hk2.frozen (p := ⟨w.heap.size + 1, o, none⟩) hl2).trans (pf o)
        have mm : w.heap.size + 1 < v2.heap.size := by omega
        refine wpAnyH_take (i := 12) (v := ?_) rfl (by kernel_rfl) (by kernel_rfl) (by kernel_rfl) (fun _ _ _ h => h) (Or.inl ⟨by rfl, ?_⟩) (by assumption) ?_
        rotate_left
        · (intro wq hSw; (try dsimp only at hSw); go_simp <;> with_reducible rfl)
        try simp only [Act.put, List.getElem_toArray, List.getElem_cons_zero, List.getElem_cons_succ, List.setIfInBounds_toArray, List.set_cons_zero, List.set_cons_succ]
        refine wpAnyH_ready (rs := [13]) (by kernel_rfl) (by simp) (AllReadyH.cons rfl (fun Kq hKq => ?_) AllReadyH.nil)
        go_simp
        refine hKq.out _ _ ?_ (fun hHeld => ?_)
        · exact sc_of (by omega) (by go_grown)
        clear hKq Kq
        try simp only [Act.put, List.getElem_toArray, List.getElem_cons_zero, List.getElem_cons_succ, List.setIfInBounds_toArray, List.set_cons_zero, List.set_cons_succ]
        refine wpAnyH_done (by kernel_rfl) ?_ _
        clear hHeld
        go_wp2_with fail
        refine bodyPost_ret (v := .agg #[(.slice A0' n1 e0), (.slice A1' n2 e1), (.slice A2' n3 e2)]) ?_ rfl ⟨_, _, _, rfl, ?_, ?_⟩
        · simp (maxDischargeDepth := 9) [results, Try.results63, go_sem, *]
        · exact ⟨own_mono (ownSet (ownSet (ownSet HO0_2.out hl2 _ _) hl2 _ _) hl2 _ _) (Nat.le_of_eq HZ.out.symm), own_mono (ownSet (ownSet (ownSet HO1_2.out hl2 _ _) hl2 _ _) hl2 _ _) (Nat.le_of_eq HZ.out.symm), own_mono (ownSet (ownSet (ownSet HO2.out hl2 _ _) hl2 _ _) hl2 _ _) (Nat.le_of_eq HZ.out.symm)⟩
        · exact ((Below.setCell (Below.trans HB1.out (hk2.mono HB1.out.size)) (by show w.heap.size ≤ w.heap.size + 1; omega) _).setCell (by show w.heap.size ≤ w.heap.size + 1; omega) _).setCell (by show w.heap.size ≤ w.heap.size + 1; omega) _
    · go_simp
      refine hKq.out _ _ ?_ (fun hHeld => ?_)
      · exact sc_of (by omega) (by go_grown)
      clear hKq Kq
      try simp only [Act.put, List.getElem_toArray, List.getElem_cons_zero, List.getElem_cons_succ, List.setIfInBounds_toArray, List.set_cons_zero, List.set_cons_succ]
      refine wpAnyH_ready (rs := [0]) (by kernel_rfl) (by simp) (AllReadyH.cons rfl (fun Kq hKq => ?_) (AllReadyH.nil))
      go_simp
      refine hKq.out _ _ ?_ (fun hHeld => ?_)
      · exact sc_of (by omega) (by go_grown)
      clear hKq Kq
      try simp only [Act.put, List.getElem_toArray, List.getElem_cons_zero, List.getElem_cons_succ, List.setIfInBounds_toArray, List.set_cons_zero, List.set_cons_succ]
      refine wpAnyH_ready (rs := [3]) (by kernel_rfl) (by simp) (AllReadyH.cons rfl (fun Kq hKq => ?_) (AllReadyH.nil))
      refine step_copy4_fi (by rfl) _ _ (by rfl) w1.heap.size _ ?b2 ?b3 (by rfl) (by rfl) HN1.out HZ1.out ?b4 (by omega) ?_
      case b2 => first | (simp; done) | omega | (simp; omega)
      case b3 => first | (refine blk_at ?_; simp; done) | (refine block_old (blk_at ?_); simp; done) | (refine block_old (block_old (blk_at ?_)); simp; done)
      case b4 => exact HR1.out.below (Below.trans HB1.out (Below.mono (B := w1.heap.size) (by go_grown) HB1.out.size))
      intro A0' e0 v0 hO0 hw0
      have HO0 : Hid (v0.ownsRow w1.heap.size 75 2 (.slice A0' n1 e0) n1 (flat fiL d.live)) := hO0
      have hq0 := fun q o (hh : _ = some o) => (hw0.block q (Array.getElem?_eq_some_iff.1 hh).1).trans hh
      have hk0 : Below w1.heap.size w1 v0 := Below.trans (by go_grown) (hw0.mono (by first | (simp; done) | (simp; omega) | go_size))
      have hs0 := hk0.size
      have hkk0 : Below (w.heap.size + 1) w1 v0 := hk0.mono (by omega)
      clear hO0 hw0
      refine hKq.out _ _ ?_ (fun hHeld => ?_)
      · exact sc_of (by omega) (by go_grown)
      clear hKq Kq
      try simp only [Act.put, List.getElem_toArray, List.getElem_cons_zero, List.getElem_cons_succ, List.setIfInBounds_toArray, List.set_cons_zero, List.set_cons_succ]
      refine wpAnyH_ready (rs := [7]) (by kernel_rfl) (by simp) (AllReadyH.cons rfl (fun Kq hKq => ?_) (AllReadyH.nil))
      refine step_copy4_fi (by rfl) _ _ (by rfl) w1.heap.size _ ?b2 ?b3 (by rfl) (by rfl) HN2.out HZ2.out ?b4 (by omega) ?_
      case b2 => first | (simp; done) | omega | (simp; omega)
      case b3 => first | (refine blk_at ?_; simp; done) | (refine block_old (blk_at ?_); simp; done) | (refine block_old (block_old (blk_at ?_)); simp; done) | (refine hq0 _ _ ?_; (first | (refine blk_at ?_; simp; done) | (refine block_old (blk_at ?_); simp; done) | (refine block_old (block_old (blk_at ?_)); simp; done))) | (refine block_old ?_; (refine hq0 _ _ ?_; (first | (refine blk_at ?_; simp; done) | (refine block_old (blk_at ?_); simp; done) | (refine block_old (block_old (blk_at ?_)); simp; done)))) | (refine block_old (block_old ?_); (refine hq0 _ _ ?_; (first | (refine blk_at ?_; simp; done) | (refine block_old (blk_at ?_); simp; done) | (refine block_old (block_old (blk_at ?_)); simp; done))))
      case b4 => exact HR2.out.below (Below.trans HB1.out (Below.mono (B := w1.heap.size) (by go_grown) HB1.out.size))
      intro A1' e1 v1 hO1 hw1
      have HO1 : Hid (v1.ownsRow w1.heap.size 75 2 (.slice A1' n2 e1) n2 (flat fiL d.safe)) := hO1
      have hq1 := fun q o (hh : _ = some o) => (hw1.block q (Array.getElem?_eq_some_iff.1 hh).1).trans hh
      have hk1 : Below w1.heap.size w1 v1 := Below.trans (by go_grown) (hw1.mono (by first | (simp; done) | (simp; omega) | go_size))
      have hs1 := hk1.size
      have hkk1 : Below (w.heap.size + 1) w1 v1 := hk1.mono (by omega)
      have HO0_1 : Hid (v1.ownsRow w1.heap.size 75 2 (.slice A0' n1 e0) n1 (flat fiL d.live)) := own_below (own_below HO0.out (by go_grown)) hw1
      clear hO1 hw1
      refine hKq.out _ _ ?_ (fun hHeld => ?_)
      · exact sc_of (by omega) (by go_grown)
      clear hKq Kq
      try simp only [Act.put, List.getElem_toArray, List.getElem_cons_zero, List.getElem_cons_succ, List.setIfInBounds_toArray, List.set_cons_zero, List.set_cons_succ]
      refine wpAnyH_ready (rs := [11]) (by kernel_rfl) (by simp) (AllReadyH.cons rfl (fun Kq hKq => ?_) (AllReadyH.nil))
      refine step_copy4_dp (by rfl) _ _ (by rfl) w1.heap.size _ ?b2 ?b3 (by rfl) (by rfl) HN3.out HZ3.out ?b4 (by omega) ?_
      case b2 => first | (simp; done) | omega | (simp; omega)
      case b3 => first | (refine blk_at ?_; simp; done) | (refine block_old (blk_at ?_); simp; done) | (refine block_old (block_old (blk_at ?_)); simp; done) | (refine hq1 _ _ ?_; (first | (refine blk_at ?_; simp; done) | (refine block_old (blk_at ?_); simp; done) | (refine block_old (block_old (blk_at ?_)); simp; done) | (refine hq0 _ _ ?_; (first | (refine blk_at ?_; simp; done) | (refine block_old (blk_at ?_); simp; done) | (refine block_old (block_old (blk_at ?_)); simp; done))) | (refine block_old ?_; (refine hq0 _ _ ?_; (first | (refine blk_at ?_; simp; done) | (refine block_old (blk_at ?_); simp; done) | (refine block_old (block_old (blk_at ?_)); simp; done)))) | (refine block_old (block_old ?_); (refine hq0 _ _ ?_; (first | (refine blk_at ?_; simp; done) | (refine block_old (blk_at ?_); simp; done) | (refine block_old (block_old (blk_at ?_)); simp; done)))))) | (refine block_old ?_; (refine hq1 _ _ ?_; (first | (refine blk_at ?_; simp; done) | (refine block_old (blk_at ?_); simp; done) | (refine block_old (block_old (blk_at ?_)); simp; done) | (refine hq0 _ _ ?_; (first | (refine blk_at ?_; simp; done) | (refine block_old (blk_at ?_); simp; done) | (refine block_old (block_old (blk_at ?_)); simp; done))) | (refine block_old ?_; (refine hq0 _ _ ?_; (first | (refine blk_at ?_; simp; done) | (refine block_old (blk_at ?_); simp; done) | (refine block_old (block_old (blk_at ?_)); simp; done)))) | (refine block_old (block_old ?_); (refine hq0 _ _ ?_; (first | (refine blk_at ?_; simp; done) | (refine block_old (blk_at ?_); simp; done) | (refine block_old (block_old (blk_at ?_)); simp; done))))))) | (refine block_old (block_old ?_); (refine hq1 _ _ ?_; (first | (refine blk_at ?_; simp; done) | (refine block_old (blk_at ?_); simp; done) | (refine block_old (block_old (blk_at ?_)); simp; done) | (refine hq0 _ _ ?_; (first | (refine blk_at ?_; simp; done) | (refine block_old (blk_at ?_); simp; done) | (refine block_old (block_old (blk_at ?_)); simp; done))) | (refine block_old ?_; (refine hq0 _ _ ?_; (first | (refine blk_at ?_; simp; done) | (refine block_old (blk_at ?_); simp; done) | (refine block_old (block_old (blk_at ?_)); simp; done)))) | (refine block_old (block_old ?_); (refine hq0 _ _ ?_; (first | (refine blk_at ?_; simp; done) | (refine block_old (blk_at ?_); simp; done) | (refine block_old (block_old (blk_at ?_)); simp; done)))))))
      case b4 => exact HR3.out.below (Below.trans HB1.out (Below.mono (B := w1.heap.size) (by go_grown) HB1.out.size))
      intro A2' e2 v2 hO2 hw2
      have HO2 : Hid (v2.ownsRow w1.heap.size 36 4 (.slice A2' n3 e2) n3 (flat dpL d.ops)) := hO2
      have hq2 := fun q o (hh : _ = some o) => (hw2.block q (Array.getElem?_eq_some_iff.1 hh).1).trans hh
      have hk2 : Below w1.heap.size w1 v2 := Below.trans (by go_grown) (hw2.mono (by first | (simp; done) | (simp; omega) | go_size))
      have hs2 := hk2.size
      have hkk2 : Below (w.heap.size + 1) w1 v2 := hk2.mono (by omega)
      have HO0_2 : Hid (v2.ownsRow w1.heap.size 75 2 (.slice A0' n1 e0) n1 (flat fiL d.live)) := own_below (own_below HO0_1.out (by go_grown)) hw2
      have HO1_2 : Hid (v2.ownsRow w1.heap.size 75 2 (.slice A1' n2 e1) n2 (flat fiL d.safe)) := own_below (own_below HO1.out (by go_grown)) hw2
      clear hO2 hw2
      refine hKq.out _ _ ?_ (fun hHeld => ?_)
      · exact sc_of (by omega) (by go_grown)
      clear hKq Kq
      try simp only [Act.put, List.getElem_toArray, List.getElem_cons_zero, List.getElem_cons_succ, List.setIfInBounds_toArray, List.set_cons_zero, List.set_cons_succ]
      have pp0 : v2.cell? ⟨w.heap.size + 1, 0, none⟩ = some (.slice none 0 0) := (hk2.cell (p := ⟨w.heap.size + 1, 0, none⟩) hl2).trans p0
      have pp1 : v2.cell? ⟨w.heap.size + 1, 1, none⟩ = some (.slice none 0 0) := (hk2.cell (p := ⟨w.heap.size + 1, 1, none⟩) hl2).trans p1
      have pp2 : v2.cell? ⟨w.heap.size + 1, 2, none⟩ = some (.slice none 0 0) := (hk2.cell (p := ⟨w.heap.size + 1, 2, none⟩) hl2).trans p2
      have ppf : ∀ o, v2.frozen? ⟨w.heap.size + 1, o, none⟩ = false := fun o => (hk2.frozen (p := ⟨w.heap.size + 1, o, none⟩) hl2).trans (pf o)
      have mm : w.heap.size + 1 < v2.heap.size := by omega
      refine wpAnyH_take (i := 12) (v := ?_) rfl (by kernel_rfl) (by kernel_rfl) (by kernel_rfl) (fun _ _ _ h => h) (Or.inl ⟨by rfl, ?_⟩) (by assumption) ?_
      rotate_left
      · (intro wq hSw; (try dsimp only at hSw); go_simp <;> with_reducible rfl)
      try simp only [Act.put, List.getElem_toArray, List.getElem_cons_zero, List.getElem_cons_succ, List.setIfInBounds_toArray, List.set_cons_zero, List.set_cons_succ]
      refine wpAnyH_ready (rs := [13]) (by kernel_rfl) (by simp) (AllReadyH.cons rfl (fun Kq hKq => ?_) AllReadyH.nil)
      go_simp
      refine hKq.out _ _ ?_ (fun hHeld => ?_)
      · exact sc_of (by omega) (by go_grown)
      clear hKq Kq
      try simp only [Act.put, List.getElem_toArray, List.getElem_cons_zero, List.getElem_cons_succ, List.setIfInBounds_toArray, List.set_cons_zero, List.set_cons_succ]
      refine wpAnyH_done (by kernel_rfl) ?_ _
      clear hHeld
      go_wp2_with fail
      refine bodyPost_ret (v := .agg #[(.slice A0' n1 e0), (.slice A1' n2 e1), (.slice A2' n3 e2)]) ?_ rfl ⟨_, _, _, rfl, ?_, ?_⟩
      · simp (maxDischargeDepth := 9) [results, Try.results63, go_sem, *]
      · exact ⟨own_mono (ownSet (ownSet (ownSet HO0_2.out hl2 _ _) hl2 _ _) hl2 _ _) (Nat.le_of_eq HZ.out.symm), own_mono (ownSet (ownSet (ownSet HO1_2.out hl2 _ _) hl2 _ _) hl2 _ _) (Nat.le_of_eq HZ.out.symm), own_mono (ownSet (ownSet (ownSet HO2.out hl2 _ _) hl2 _ _) hl2 _ _) (Nat.le_of_eq HZ.out.symm)⟩
      · exact ((Below.setCell (Below.trans HB1.out (hk2.mono HB1.out.size)) (by show w.heap.size ≤ w.heap.size + 1; omega) _).setCell (by show w.heap.size ≤ w.heap.size + 1; omega) _).setCell (by show w.heap.size ≤ w.heap.size + 1; omega) _
end Go.Proofs.Ytanjlpgdmnapdaa
