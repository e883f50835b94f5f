import Derived.Test.YthagnaeemipnlaaCvF
namespace Go.Proofs.Ythagnaeemipnlaa
open Go.RowKit
set_option linter.unusedSimpArgs false

/-- What the first of the row at the place (p, q) says; a blank where there is none. -/
def LkV (C R K V : Nat → Int) (S : Nat → ByteArray) (n : Nat) (p q : Int) (k v : Int) (s : ByteArray) : Prop :=
  (∃ i, i < n ∧ C i = p ∧ R i = q ∧ (∀ j, j < i → ¬ (C j = p ∧ R j = q)) ∧ k = K i ∧ v = V i ∧ s = S i) ∨ ((∀ j, j < n → ¬ (C j = p ∧ R j = q)) ∧ k = 0 ∧ v = 0 ∧ s = ⟨#[]⟩)
theorem LkV.same {C R K V : Nat → Int} {S : Nat → ByteArray} {n : Nat} {p q k v k' v' : Int} {s s' : ByteArray} (h : LkV C R K V S n p q k v s) (h' : LkV C R K V S n p q k' v' s') : k = k' ∧ v = v' ∧ s = s' := by
  rcases h with ⟨i, hi, c1, c2, hf, rfl, rfl, rfl⟩ | ⟨hf, rfl, rfl, rfl⟩
  · rcases h' with ⟨j, hj, d1, d2, hg, rfl, rfl, rfl⟩ | ⟨hg, rfl, rfl, rfl⟩
    · have e : i = j := by
        rcases Nat.lt_trichotomy i j with h | h | h
        · exact absurd ⟨c1, c2⟩ (hg i h)
        · exact h
        · exact absurd ⟨d1, d2⟩ (hf j h)
      subst e
      exact ⟨rfl, rfl, rfl⟩
    · exact absurd ⟨c1, c2⟩ (hg i hi)
  · rcases h' with ⟨j, hj, d1, d2, hg, rfl, rfl, rfl⟩ | ⟨hg, rfl, rfl, rfl⟩
    · exact absurd ⟨d1, d2⟩ (hf j hj)
    · exact ⟨rfl, rfl, rfl⟩

set_option maxHeartbeats 4000000 in
theorem impl_valueAt {A : Option Addr} {n cap : Nat} {C R K V : Nat → Int} {S : Nat → ByteArray} (p q : Int) (w : World) (h : CvRow w A n C R K V S) :
    Calls Try.prog 46 #[.slice A n cap, .agg #[.int .i64 p, .int .i64 q]] w fun e w' => ∃ k v s, e = .returned (.agg #[.int .i64 k, .int .i64 v, .string s]) ∧ LkV C R K V S n p q k v s ∧ Below w.heap.size w w' := by
  have HR : Hid (CvRow w A n C R K V S) := h
  have hn := h.1
  unfold maxLen at hn
  clear h
  go_enter Try.func46, Try.ntmps46
  go_wp2_with fail
  go_loopw [9] (fun i wr => ∃ k : Nat, k ≤ n ∧ i = .int .i64 k ∧ (∀ j, j < k → ¬ (C j = p ∧ R j = q)) ∧ Below w.heap.size w wr ∧ Below (w.heap.size + 2) ((w.alloc (.cells #[.int .i64 p, .int .i64 q] 44)).alloc (.cells #[.int .i64 0, .int .i64 0, .string ⟨#[]⟩] 25)) wr) (fun i _ => n - (intOf i).toNat)
  case atStart => exact ⟨0, Nat.zero_le _, rfl, fun i hi => by omega, by go_grown, Below.refl _ _⟩
  case round =>
    obtain ⟨k, hk, rfl, hr, hbel, hbx⟩ := hrel
    have HI : Hid (∀ j, j < k → ¬ (C j = p ∧ R j = q)) := hr
    clear hr
    have hs := hbel.size
    have hsx : w.heap.size + 2 ≤ wr.heap.size := Nat.le_trans (by go_size) hbx.size
    have e0 : wr.cell? ⟨w.heap.size, 0, none⟩ = some (.int .i64 p) := (hbx.cell (p := ⟨_, _, none⟩) (by simp)).trans (by simp)
    have e1 : wr.cell? ⟨w.heap.size, 1, none⟩ = some (.int .i64 q) := (hbx.cell (p := ⟨_, _, none⟩) (by simp)).trans (by simp)
    have g0 : wr.cell? ⟨w.heap.size + 1, 0, none⟩ = some (.int .i64 0) := (hbx.cell (p := ⟨_, _, none⟩) (by simp)).trans (by simp)
    have g1 : wr.cell? ⟨w.heap.size + 1, 1, none⟩ = some (.int .i64 0) := (hbx.cell (p := ⟨_, _, none⟩) (by simp)).trans (by simp)
    have g2 : wr.cell? ⟨w.heap.size + 1, 2, none⟩ = some (.string ⟨#[]⟩) := (hbx.cell (p := ⟨_, _, none⟩) (by simp)).trans (by simp)
    have f0 : wr.frozen? ⟨w.heap.size + 1, 0, none⟩ = false := (hbx.frozen (p := ⟨_, _, none⟩) (by simp)).trans (by simp)
    have f1 : wr.frozen? ⟨w.heap.size + 1, 1, none⟩ = false := (hbx.frozen (p := ⟨_, _, none⟩) (by simp)).trans (by simp)
    have f2 : wr.frozen? ⟨w.heap.size + 1, 2, none⟩ = false := (hbx.frozen (p := ⟨_, _, none⟩) (by simp)).trans (by simp)
    have l0 : w.heap.size < wr.heap.size := by omega
    have l1 : w.heap.size + 1 < wr.heap.size := by omega
    have HB : Hid (Below w.heap.size w wr) := hbel
    have HX : Hid (Below (w.heap.size + 2) ((w.alloc (.cells #[.int .i64 p, .int .i64 q] 44)).alloc (.cells #[.int .i64 0, .int .i64 0, .string ⟨#[]⟩] 25)) wr) := hbx
    by_cases hlt : k < n
    · obtain ⟨b, o, rfl, hl, c0, c1, c2, c3, c4, _⟩ := HR.out.2 k hlt
      rw [← hbel.cell (p := ⟨_, _, none⟩) hl] at c0 c1 c2 c3 c4
      clear hbel hbx
      have hl2 : b < wr.heap.size := Nat.lt_of_lt_of_le hl hs
      have h0 : (0 : Int) ≤ (k : Int) := by omega
      have h1 : (k : Int) < (n : Int) := by omega
      by_cases hc : C k = p
      · by_cases hd : R k = q
        · subst hc hd
          go_wp2_with fail
          refine bodyPost_ret (v := .agg #[.int .i64 (K k), .int .i64 (V k), .string (S k)]) ?_ rfl ⟨_, _, _, rfl, Or.inl ⟨k, hlt, rfl, rfl, HI.out, rfl, rfl, rfl⟩, by have hbq := HB.out; go_grown⟩
          simp (maxDischargeDepth := 9) [results, Try.results46, go_sem, *]
        · subst hc
          go_wp2_with fail
          go_roundw
          case rel => exact ⟨k + 1, by omega, by go_num, fun j hj => by
            by_cases e : j = k
            · subst e; exact fun h => hd h.2
            · exact HI.out j (by omega), by have hbq := HB.out; go_grown, by have hbq := HX.out; go_grown⟩
          case measure => simp [intOf]; omega
      · go_wp2_with fail
        go_roundw
        case rel => exact ⟨k + 1, by omega, by go_num, fun j hj => by
          by_cases e : j = k
          · subst e; exact fun h => hc h.1
          · exact HI.out j (by omega), by have hbq := HB.out; go_grown, by have hbq := HX.out; go_grown⟩
        case measure => simp [intOf]; omega
    · have h1 : ¬ (k : Int) < (n : Int) := by omega
      obtain rfl : k = n := by omega
      clear hbel hbx
      go_wp2_with fail
      refine bodyPost_ret (v := .agg #[.int .i64 0, .int .i64 0, .string ⟨#[]⟩]) ?_ rfl ⟨_, _, _, rfl, Or.inr ⟨HI.out, rfl, rfl, rfl⟩, by have hbq := HB.out; go_grown⟩
      simp (maxDischargeDepth := 9) [results, Try.results46, go_sem, *]
set_option maxHeartbeats 4000000 in
theorem spec_l6At {A : Option Addr} {n cap : Nat} {C R K V : Nat → Int} {S : Nat → ByteArray} (p q : Int) (w : World) (h : CvRow w A n C R K V S) :
    Calls Try.prog 45 #[.slice A n cap, .agg #[.int .i64 p, .int .i64 q]] w fun e w' => ∃ k v s, e = .returned (.agg #[.int .i64 k, .int .i64 v, .string s]) ∧ LkV C R K V S n p q k v s ∧ Below w.heap.size w w' := by
  have HR : Hid (CvRow w A n C R K V S) := h
  have hn := h.1
  unfold maxLen at hn
  clear h
  go_enter Try.func45, Try.ntmps45
  go_wp2_with fail
  go_loopw [5] (fun i wr => ∃ k : Nat, k ≤ n ∧ i = .int .i64 k ∧ (∀ j, j < k → ¬ (C j = p ∧ R j = q)) ∧ Below w.heap.size w wr ∧ Below (w.heap.size + 2) ((w.alloc (.cells #[.int .i64 p, .int .i64 q] 44)).alloc (.cells #[.int .i64 0, .int .i64 0, .string ⟨#[]⟩] 25)) wr) (fun i _ => n - (intOf i).toNat)
  case atStart => exact ⟨0, Nat.zero_le _, rfl, fun i hi => by omega, by go_grown, Below.refl _ _⟩
  case round =>
    obtain ⟨k, hk, rfl, hr, hbel, hbx⟩ := hrel
    have HI : Hid (∀ j, j < k → ¬ (C j = p ∧ R j = q)) := hr
    clear hr
    have hs := hbel.size
    have hsx : w.heap.size + 2 ≤ wr.heap.size := Nat.le_trans (by go_size) hbx.size
    have e0 : wr.cell? ⟨w.heap.size, 0, none⟩ = some (.int .i64 p) := (hbx.cell (p := ⟨_, _, none⟩) (by simp)).trans (by simp)
    have e1 : wr.cell? ⟨w.heap.size, 1, none⟩ = some (.int .i64 q) := (hbx.cell (p := ⟨_, _, none⟩) (by simp)).trans (by simp)
    have g0 : wr.cell? ⟨w.heap.size + 1, 0, none⟩ = some (.int .i64 0) := (hbx.cell (p := ⟨_, _, none⟩) (by simp)).trans (by simp)
    have g1 : wr.cell? ⟨w.heap.size + 1, 1, none⟩ = some (.int .i64 0) := (hbx.cell (p := ⟨_, _, none⟩) (by simp)).trans (by simp)
    have g2 : wr.cell? ⟨w.heap.size + 1, 2, none⟩ = some (.string ⟨#[]⟩) := (hbx.cell (p := ⟨_, _, none⟩) (by simp)).trans (by simp)
    have f0 : wr.frozen? ⟨w.heap.size + 1, 0, none⟩ = false := (hbx.frozen (p := ⟨_, _, none⟩) (by simp)).trans (by simp)
    have f1 : wr.frozen? ⟨w.heap.size + 1, 1, none⟩ = false := (hbx.frozen (p := ⟨_, _, none⟩) (by simp)).trans (by simp)
    have f2 : wr.frozen? ⟨w.heap.size + 1, 2, none⟩ = false := (hbx.frozen (p := ⟨_, _, none⟩) (by simp)).trans (by simp)
    have l0 : w.heap.size < wr.heap.size := by omega
    have l1 : w.heap.size + 1 < wr.heap.size := by omega
    have HB : Hid (Below w.heap.size w wr) := hbel
    have HX : Hid (Below (w.heap.size + 2) ((w.alloc (.cells #[.int .i64 p, .int .i64 q] 44)).alloc (.cells #[.int .i64 0, .int .i64 0, .string ⟨#[]⟩] 25)) wr) := hbx
    by_cases hlt : k < n
    · obtain ⟨b, o, rfl, hl, c0, c1, c2, c3, c4, _⟩ := HR.out.2 k hlt
      rw [← hbel.cell (p := ⟨_, _, none⟩) hl] at c0 c1 c2 c3 c4
      clear hbel hbx
      have hl2 : b < wr.heap.size := Nat.lt_of_lt_of_le hl hs
      have h0 : (0 : Int) ≤ (k : Int) := by omega
      have h1 : (k : Int) < (n : Int) := by omega
      by_cases hc : C k = p
      · by_cases hd : R k = q
        · subst hc hd
          go_wp2_with fail
          refine wp_region_held_drew (S := (fun w' => (∀ bq oq, bq < wr.heap.size → w'.cell? ⟨bq, oq, none⟩ = wr.cell? ⟨bq, oq, none⟩) ∧ wr.heap.size ≤ w'.heap.size ∧ Below wr.heap.size wr w')) (by kernel_rfl) (sc_of (by go_size) (by go_grown)) (fun hHeld => ?_)
          refine wpAnyH_take (i := 0) (v := ?_) rfl (by kernel_rfl) (by kernel_rfl) (by kernel_rfl) (fun _ _ _ h => h) (Or.inl ⟨by rfl, ?_⟩) (by assumption) ?_
          rotate_left
          · (intro wq hSw; (try dsimp only at hSw); go_simp <;> with_reducible rfl)
          try simp only [Act.put, List.getElem_toArray, List.getElem_cons_zero, List.getElem_cons_succ, List.setIfInBounds_toArray, List.set_cons_zero, List.set_cons_succ]
          refine wpAnyH_take (i := 1) (v := ?_) rfl (by kernel_rfl) (by kernel_rfl) (by kernel_rfl) (fun _ _ _ h => h) (Or.inl ⟨by rfl, ?_⟩) (by assumption) ?_
          rotate_left
          · (intro wq hSw; (try dsimp only at hSw); go_simp <;> with_reducible rfl)
          try simp only [Act.put, List.getElem_toArray, List.getElem_cons_zero, List.getElem_cons_succ, List.setIfInBounds_toArray, List.set_cons_zero, List.set_cons_succ]
          refine wpAnyH_take (i := 2) (v := ?_) rfl (by kernel_rfl) (by kernel_rfl) (by kernel_rfl) (fun _ _ _ h => h) (Or.inl ⟨by rfl, ?_⟩) (by assumption) ?_
          rotate_left
          · (intro wq hSw; (try dsimp only at hSw); go_simp <;> with_reducible rfl)
          try simp only [Act.put, List.getElem_toArray, List.getElem_cons_zero, List.getElem_cons_succ, List.setIfInBounds_toArray, List.set_cons_zero, List.set_cons_succ]
          refine wpAnyH_take (i := 3) (v := ?_) rfl (by kernel_rfl) (by kernel_rfl) (by kernel_rfl) (fun _ _ _ h => h) (Or.inl ⟨by rfl, ?_⟩) (by assumption) ?_
          rotate_left
          · (intro wq hSw; (try dsimp only at hSw); go_simp <;> with_reducible rfl)
          try simp only [Act.put, List.getElem_toArray, List.getElem_cons_zero, List.getElem_cons_succ, List.setIfInBounds_toArray, List.set_cons_zero, List.set_cons_succ]
          refine wpAnyH_take (i := 4) (v := ?_) rfl (by kernel_rfl) (by kernel_rfl) (by kernel_rfl) (fun _ _ _ h => h) (Or.inl ⟨by rfl, ?_⟩) (by assumption) ?_
          rotate_left
          · (intro wq hSw; (try dsimp only at hSw); go_simp <;> with_reducible rfl)
          try simp only [Act.put, List.getElem_toArray, List.getElem_cons_zero, List.getElem_cons_succ, List.setIfInBounds_toArray, List.set_cons_zero, List.set_cons_succ]
          refine wpAnyH_take (i := 5) (v := ?_) rfl (by kernel_rfl) (by kernel_rfl) (by kernel_rfl) (fun _ _ _ h => h) (Or.inl ⟨by rfl, ?_⟩) (by assumption) ?_
          rotate_left
          · (intro wq hSw; (try dsimp only at hSw); go_simp <;> with_reducible rfl)
          try simp only [Act.put, List.getElem_toArray, List.getElem_cons_zero, List.getElem_cons_succ, List.setIfInBounds_toArray, List.set_cons_zero, List.set_cons_succ]
          refine wpAnyH_take (i := 6) (v := ?_) rfl (by kernel_rfl) (by kernel_rfl) (by kernel_rfl) (fun _ _ _ h => h) (Or.inl ⟨by rfl, ?_⟩) (by assumption) ?_
          rotate_left
          · (intro wq hSw; (try dsimp only at hSw); go_simp <;> with_reducible rfl)
          try simp only [Act.put, List.getElem_toArray, List.getElem_cons_zero, List.getElem_cons_succ, List.setIfInBounds_toArray, List.set_cons_zero, List.set_cons_succ]
          refine wpAnyH_done (by kernel_rfl) ?_ _
          go_wp2_with fail
          refine bodyPost_ret (v := .agg #[.int .i64 (K k), .int .i64 (V k), .string (S k)]) ?_ rfl ⟨_, _, _, rfl, Or.inl ⟨k, hlt, rfl, rfl, HI.out, rfl, rfl, rfl⟩, by have hbq := HB.out; go_grown⟩
          simp (maxDischargeDepth := 9) [results, Try.results45, go_sem, *]
        · subst hc
          go_wp2_with fail
          refine wp_region_held_drew (S := (fun w' => (∀ bq oq, bq < wr.heap.size → w'.cell? ⟨bq, oq, none⟩ = wr.cell? ⟨bq, oq, none⟩) ∧ wr.heap.size ≤ w'.heap.size ∧ Below wr.heap.size wr w')) (by kernel_rfl) (sc_of (by go_size) (by go_grown)) (fun hHeld => ?_)
          refine wpAnyH_take (i := 0) (v := ?_) rfl (by kernel_rfl) (by kernel_rfl) (by kernel_rfl) (fun _ _ _ h => h) (Or.inl ⟨by rfl, ?_⟩) (by assumption) ?_
          rotate_left
          · (intro wq hSw; (try dsimp only at hSw); go_simp <;> with_reducible rfl)
          try simp only [Act.put, List.getElem_toArray, List.getElem_cons_zero, List.getElem_cons_succ, List.setIfInBounds_toArray, List.set_cons_zero, List.set_cons_succ]
          refine wpAnyH_take (i := 1) (v := ?_) rfl (by kernel_rfl) (by kernel_rfl) (by kernel_rfl) (fun _ _ _ h => h) (Or.inl ⟨by rfl, ?_⟩) (by assumption) ?_
          rotate_left
          · (intro wq hSw; (try dsimp only at hSw); go_simp <;> with_reducible rfl)
          try simp only [Act.put, List.getElem_toArray, List.getElem_cons_zero, List.getElem_cons_succ, List.setIfInBounds_toArray, List.set_cons_zero, List.set_cons_succ]
          refine wpAnyH_take (i := 2) (v := ?_) rfl (by kernel_rfl) (by kernel_rfl) (by kernel_rfl) (fun _ _ _ h => h) (Or.inl ⟨by rfl, ?_⟩) (by assumption) ?_
          rotate_left
          · (intro wq hSw; (try dsimp only at hSw); go_simp <;> with_reducible rfl)
          try simp only [Act.put, List.getElem_toArray, List.getElem_cons_zero, List.getElem_cons_succ, List.setIfInBounds_toArray, List.set_cons_zero, List.set_cons_succ]
          refine wpAnyH_take (i := 3) (v := ?_) rfl (by kernel_rfl) (by kernel_rfl) (by kernel_rfl) (fun _ _ _ h => h) (Or.inl ⟨by rfl, ?_⟩) (by assumption) ?_
          rotate_left
          · (intro wq hSw; (try dsimp only at hSw); go_simp <;> with_reducible rfl)
          try simp only [Act.put, List.getElem_toArray, List.getElem_cons_zero, List.getElem_cons_succ, List.setIfInBounds_toArray, List.set_cons_zero, List.set_cons_succ]
          refine wpAnyH_take (i := 4) (v := ?_) rfl (by kernel_rfl) (by kernel_rfl) (by kernel_rfl) (fun _ _ _ h => h) (Or.inl ⟨by rfl, ?_⟩) (by assumption) ?_
          rotate_left
          · (intro wq hSw; (try dsimp only at hSw); go_simp <;> with_reducible rfl)
          try simp only [Act.put, List.getElem_toArray, List.getElem_cons_zero, List.getElem_cons_succ, List.setIfInBounds_toArray, List.set_cons_zero, List.set_cons_succ]
          refine wpAnyH_take (i := 5) (v := ?_) rfl (by kernel_rfl) (by kernel_rfl) (by kernel_rfl) (fun _ _ _ h => h) (Or.inl ⟨by rfl, ?_⟩) (by assumption) ?_
          rotate_left
          · (intro wq hSw; (try dsimp only at hSw); go_simp <;> with_reducible rfl)
          try simp only [Act.put, List.getElem_toArray, List.getElem_cons_zero, List.getElem_cons_succ, List.setIfInBounds_toArray, List.set_cons_zero, List.set_cons_succ]
          refine wpAnyH_take (i := 6) (v := ?_) rfl (by kernel_rfl) (by kernel_rfl) (by kernel_rfl) (fun _ _ _ h => h) (Or.inl ⟨by rfl, ?_⟩) (by assumption) ?_
          rotate_left
          · (intro wq hSw; (try dsimp only at hSw); go_simp <;> with_reducible rfl)
          try simp only [Act.put, List.getElem_toArray, List.getElem_cons_zero, List.getElem_cons_succ, List.setIfInBounds_toArray, List.set_cons_zero, List.set_cons_succ]
          refine wpAnyH_done (by kernel_rfl) ?_ _
          go_wp2_with fail
          go_roundw
          case rel => exact ⟨k + 1, by omega, by go_num, fun j hj => by
            by_cases e : j = k
            · subst e; exact fun h => hd h.2
            · exact HI.out j (by omega), by have hbq := HB.out; go_grown, by have hbq := HX.out; go_grown⟩
          case measure => simp [intOf]; omega
      · go_wp2_with fail
        refine wp_region_held_drew (S := (fun w' => (∀ bq oq, bq < wr.heap.size → w'.cell? ⟨bq, oq, none⟩ = wr.cell? ⟨bq, oq, none⟩) ∧ wr.heap.size ≤ w'.heap.size ∧ Below wr.heap.size wr w')) (by kernel_rfl) (sc_of (by go_size) (by go_grown)) (fun hHeld => ?_)
        refine wpAnyH_take (i := 0) (v := ?_) rfl (by kernel_rfl) (by kernel_rfl) (by kernel_rfl) (fun _ _ _ h => h) (Or.inl ⟨by rfl, ?_⟩) (by assumption) ?_
        rotate_left
        · (intro wq hSw; (try dsimp only at hSw); go_simp <;> with_reducible rfl)
        try simp only [Act.put, List.getElem_toArray, List.getElem_cons_zero, List.getElem_cons_succ, List.setIfInBounds_toArray, List.set_cons_zero, List.set_cons_succ]
        refine wpAnyH_take (i := 1) (v := ?_) rfl (by kernel_rfl) (by kernel_rfl) (by kernel_rfl) (fun _ _ _ h => h) (Or.inl ⟨by rfl, ?_⟩) (by assumption) ?_
        rotate_left
        · (intro wq hSw; (try dsimp only at hSw); go_simp <;> with_reducible rfl)
        try simp only [Act.put, List.getElem_toArray, List.getElem_cons_zero, List.getElem_cons_succ, List.setIfInBounds_toArray, List.set_cons_zero, List.set_cons_succ]
        refine wpAnyH_take (i := 2) (v := ?_) rfl (by kernel_rfl) (by kernel_rfl) (by kernel_rfl) (fun _ _ _ h => h) (Or.inl ⟨by rfl, ?_⟩) (by assumption) ?_
        rotate_left
        · (intro wq hSw; (try dsimp only at hSw); go_simp <;> with_reducible rfl)
        try simp only [Act.put, List.getElem_toArray, List.getElem_cons_zero, List.getElem_cons_succ, List.setIfInBounds_toArray, List.set_cons_zero, List.set_cons_succ]
        refine wpAnyH_take (i := 3) (v := ?_) rfl (by kernel_rfl) (by kernel_rfl) (by kernel_rfl) (fun _ _ _ h => h) (Or.inl ⟨by rfl, ?_⟩) (by assumption) ?_
        rotate_left
        · (intro wq hSw; (try dsimp only at hSw); go_simp <;> with_reducible rfl)
        try simp only [Act.put, List.getElem_toArray, List.getElem_cons_zero, List.getElem_cons_succ, List.setIfInBounds_toArray, List.set_cons_zero, List.set_cons_succ]
        refine wpAnyH_take (i := 4) (v := ?_) rfl (by kernel_rfl) (by kernel_rfl) (by kernel_rfl) (fun _ _ _ h => h) (Or.inl ⟨by rfl, ?_⟩) (by assumption) ?_
        rotate_left
        · (intro wq hSw; (try dsimp only at hSw); go_simp <;> with_reducible rfl)
        try simp only [Act.put, List.getElem_toArray, List.getElem_cons_zero, List.getElem_cons_succ, List.setIfInBounds_toArray, List.set_cons_zero, List.set_cons_succ]
        refine wpAnyH_take (i := 5) (v := ?_) rfl (by kernel_rfl) (by kernel_rfl) (by kernel_rfl) (fun _ _ _ h => h) (Or.inl ⟨by rfl, ?_⟩) (by assumption) ?_
        rotate_left
        · (intro wq hSw; (try dsimp only at hSw); go_simp <;> with_reducible rfl)
        try simp only [Act.put, List.getElem_toArray, List.getElem_cons_zero, List.getElem_cons_succ, List.setIfInBounds_toArray, List.set_cons_zero, List.set_cons_succ]
        refine wpAnyH_take (i := 6) (v := ?_) rfl (by kernel_rfl) (by kernel_rfl) (by kernel_rfl) (fun _ _ _ h => h) (Or.inl ⟨by rfl, ?_⟩) (by assumption) ?_
        rotate_left
        · (intro wq hSw; (try dsimp only at hSw); go_simp <;> with_reducible rfl)
        try simp only [Act.put, List.getElem_toArray, List.getElem_cons_zero, List.getElem_cons_succ, List.setIfInBounds_toArray, List.set_cons_zero, List.set_cons_succ]
        refine wpAnyH_done (by kernel_rfl) ?_ _
        go_wp2_with fail
        go_roundw
        case rel => exact ⟨k + 1, by omega, by go_num, fun j hj => by
          by_cases e : j = k
          · subst e; exact fun h => hc h.1
          · exact HI.out j (by omega), by have hbq := HB.out; go_grown, by have hbq := HX.out; go_grown⟩
        case measure => simp [intOf]; omega
    · have h1 : ¬ (k : Int) < (n : Int) := by omega
      obtain rfl : k = n := by omega
      clear hbel hbx
      go_wp2_with fail
      refine bodyPost_ret (v := .agg #[.int .i64 0, .int .i64 0, .string ⟨#[]⟩]) ?_ rfl ⟨_, _, _, rfl, Or.inr ⟨HI.out, rfl, rfl, rfl⟩, by have hbq := HB.out; go_grown⟩
      simp (maxDischargeDepth := 9) [results, Try.results45, go_sem, *]
end Go.Proofs.Ythagnaeemipnlaa
