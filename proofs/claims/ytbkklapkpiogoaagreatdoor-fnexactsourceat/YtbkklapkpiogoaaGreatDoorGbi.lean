import Derived.Test.YtbkklapkpiogoaaGreatDoorGbh
import Derived.Test.YtbkklapkpiogoaaGreatDoorGbg
namespace Go.Proofs.YtbkklapkpiogoaaGreatDoor
open Go.RowKit
set_option linter.unusedSimpArgs false

/-- The places up to i are right and rise. -/
def riseAt (C R : Nat → Int) (i : Nat) : Bool := refOkB (C i) (R i) && (decide (i = 0) || aheadB (C (i - 1)) (R (i - 1)) (C i) (R i))
def riseB (C R : Nat → Int) (n : Nat) : Bool := (List.range n).all (riseAt C R)
/-- The frame behind a block of the round's own. -/
theorem bfin0 {n : Nat} {w X w' : World} (h0 : Below w.heap.size w X) (h : Below (w.heap.size + n) X w') : Below w.heap.size w w' := h0.trans (h.mono (Nat.le_add_right _ _))
theorem all_noC {f : Nat → Bool} {n k : Nat} (hk : k < n) (h : f k = false) : (List.range n).all f = false := by
  rw [List.all_eq_false]
  exact ⟨k, List.mem_range.2 hk, by simp [h]⟩
theorem all_yesC {f : Nat → Bool} {n : Nat} (h : ∀ i, i < n → f i = true) : (List.range n).all f = true := by
  rw [List.all_eq_true]
  exact fun i hi => h i (List.mem_range.1 hi)

set_option maxRecDepth 100000 in
set_option maxHeartbeats 4000000 in
theorem impl_placesRise_Cl {A : Option Addr} {n cap : Nat} {C R : Nat → Int} {S : Nat → ByteArray} (w : World) (h : ClRow w A n C R S) :
    Calls Tryz.prog 57 #[.slice A n cap, .func (.func 58) #[] #[]] w fun e w' => e = .returned (.bool (riseB C R n)) ∧ Below w.heap.size w w' := by
  have HR : Hid (ClRow w A n C R S) := h
  have hn := h.1
  unfold maxLen at hn
  clear h
  go_enter Tryz.func57, Tryz.ntmps57
  go_wp2_with fail
  go_loopw [9] (fun i wr => ∃ k : Nat, k ≤ n ∧ i = .int .i64 k ∧ (∀ i, i < k → riseAt C R i = true) ∧ Below w.heap.size w wr) (fun i _ => n - (intOf i).toNat)
  case atStart => exact ⟨0, Nat.zero_le _, rfl, fun i hi => by omega, Below.refl _ _⟩
  case round =>
    obtain ⟨k, hk, rfl, hr, hbel⟩ := hrel
    have HI : Hid (∀ i, i < k → riseAt C R i = true) := hr
    clear hr
    by_cases hlt : k < n
    · obtain ⟨b, o, rfl, hl, c0, c1, c2, _⟩ := HR.out.2 k hlt
      have hs := hbel.size
      rw [← hbel.cell (p := ⟨_, _, none⟩) hl] at c0 c1 c2
      have hl2 : b < wr.heap.size := Nat.lt_of_lt_of_le hl hs
      have hl3 : b < wr.heap.size + 1 := Nat.lt_succ_of_lt hl2
      have h0 : (0 : Int) ≤ (k : Int) := by omega
      have h1 : (k : Int) < (n : Int) := by omega
      cases ho : refOkB (C k) (R k)
      · have HO : Hid (refOkB (C k) (R k) = false) := ho
        have HF : Hid (riseB C R n = false) := all_noC hlt (by simp [riseAt, ho])
        clear ho
        go_wp2_with fail
        refine wp_region_held_drew (S := (fun w' => (∀ bq oq, bq < wr.heap.size + 1 → w'.cell? ⟨bq, oq, none⟩ = (wr.alloc (.cells #[.int .i64 (C k), .int .i64 (R k), .string (S k)] 84)).cell? ⟨bq, oq, none⟩) ∧ wr.heap.size + 1 ≤ w'.heap.size ∧ Below (wr.heap.size + 1) (wr.alloc (.cells #[.int .i64 (C k), .int .i64 (R k), .string (S k)] 84)) w')) (by kernel_rfl) (sc_of (by go_size) (by go_grown)) (fun hHeld => ?_)
        refine wpAnyH_take (i := 0) (v := ?_) rfl (by kernel_rfl) (by kernel_rfl) (by kernel_rfl) (fun _ _ _ h => h) (Or.inl ⟨by rfl, ?_⟩) (by assumption) ?_
        rotate_left
        · (intro wq hSw; (try dsimp only at hSw); go_simp <;> with_reducible rfl)
        try simp only [Act.put, List.getElem_toArray, List.getElem_cons_zero, List.getElem_cons_succ, List.setIfInBounds_toArray, List.set_cons_zero, List.set_cons_succ]
        refine wpAnyH_take (i := 1) (v := ?_) rfl (by kernel_rfl) (by kernel_rfl) (by kernel_rfl) (fun _ _ _ h => h) (Or.inl ⟨by rfl, ?_⟩) (by assumption) ?_
        rotate_left
        · (intro wq hSw; (try dsimp only at hSw); go_simp <;> with_reducible rfl)
        try simp only [Act.put, List.getElem_toArray, List.getElem_cons_zero, List.getElem_cons_succ, List.setIfInBounds_toArray, List.set_cons_zero, List.set_cons_succ]
        refine wpAnyH_ready (rs := [2]) (by kernel_rfl) (by simp) (AllReadyH.cons rfl (fun Kq hKq => ?_) AllReadyH.nil)
        go_simp
        (refine (impl_cellPlace _ _ _ _).mono ?_; rintro e w1 ⟨rfl, hb⟩; obtain ⟨hk1, hz1⟩ := bframe (B := wr.heap.size + 1) (X := (wr.alloc (.cells #[.int .i64 (C k), .int .i64 (R k), .string (S k)] 84))) (by go_grown) (by go_size) hb; have hC := fun b o h => hk1.cell (p := ⟨b, o, none⟩) h; clear hb)
        refine hKq.out _ _ ?_ (fun hHeld => ?_)
        · exact sc_of (by go_size) (by go_grown)
        clear hKq Kq
        try simp only [Act.put, List.getElem_toArray, List.getElem_cons_zero, List.getElem_cons_succ, List.setIfInBounds_toArray, List.set_cons_zero, List.set_cons_succ]
        refine wpAnyH_ready (rs := [3]) (by kernel_rfl) (by simp) (AllReadyH.cons rfl (fun Kq hKq => ?_) AllReadyH.nil)
        go_simp
        (refine (impl_RefOk _ _ _).mono ?_; rintro e w1 ⟨rfl, hb⟩; rw [HO.out]; obtain ⟨hk1, hz1⟩ := bframe (B := wr.heap.size + 1) (X := (wr.alloc (.cells #[.int .i64 (C k), .int .i64 (R k), .string (S k)] 84))) (by go_grown) (by go_size) hb; have hC := fun b o h => hk1.cell (p := ⟨b, o, none⟩) h; clear hb)
        refine hKq.out _ _ ?_ (fun hHeld => ?_)
        · exact sc_of (by go_size) (by go_grown)
        clear hKq Kq
        try simp only [Act.put, List.getElem_toArray, List.getElem_cons_zero, List.getElem_cons_succ, List.setIfInBounds_toArray, List.set_cons_zero, List.set_cons_succ]
        refine wpAnyH_take (i := 4) (v := ?_) rfl (by kernel_rfl) (by kernel_rfl) (by kernel_rfl) (fun _ _ _ h => h) (Or.inl ⟨by rfl, ?_⟩) (by assumption) ?_
        rotate_left
        · (intro wq hSw; (try dsimp only at hSw); go_simp <;> with_reducible rfl)
        try simp only [Act.put, List.getElem_toArray, List.getElem_cons_zero, List.getElem_cons_succ, List.setIfInBounds_toArray, List.set_cons_zero, List.set_cons_succ]
        refine wpAnyH_take (i := 5) (v := ?_) rfl (by kernel_rfl) (by kernel_rfl) (by kernel_rfl) (fun _ _ _ h => h) (Or.inl ⟨by rfl, ?_⟩) (by assumption) ?_
        rotate_left
        · (intro wq hSw; (try dsimp only at hSw); go_simp <;> with_reducible rfl)
        try simp only [Act.put, List.getElem_toArray, List.getElem_cons_zero, List.getElem_cons_succ, List.setIfInBounds_toArray, List.set_cons_zero, List.set_cons_succ]
        refine wpAnyH_take (i := 6) (v := undef) rfl (by kernel_rfl) (by kernel_rfl) (by kernel_rfl) (fun _ _ _ h => h) (Or.inr ⟨by rfl, rfl⟩) (by assumption) ?_
        try simp only [Act.put, List.getElem_toArray, List.getElem_cons_zero, List.getElem_cons_succ, List.setIfInBounds_toArray, List.set_cons_zero, List.set_cons_succ]
        refine wpAnyH_take (i := 7) (v := undef) rfl (by kernel_rfl) (by kernel_rfl) (by kernel_rfl) (fun _ _ _ h => h) (Or.inr ⟨by rfl, rfl⟩) (by assumption) ?_
        try simp only [Act.put, List.getElem_toArray, List.getElem_cons_zero, List.getElem_cons_succ, List.setIfInBounds_toArray, List.set_cons_zero, List.set_cons_succ]
        refine wpAnyH_take (i := 8) (v := undef) rfl (by kernel_rfl) (by kernel_rfl) (by kernel_rfl) (fun _ _ _ h => h) (Or.inr ⟨by rfl, rfl⟩) (by assumption) ?_
        try simp only [Act.put, List.getElem_toArray, List.getElem_cons_zero, List.getElem_cons_succ, List.setIfInBounds_toArray, List.set_cons_zero, List.set_cons_succ]
        refine wpAnyH_take (i := 9) (v := undef) rfl (by kernel_rfl) (by kernel_rfl) (by kernel_rfl) (fun _ _ _ h => h) (Or.inr ⟨by rfl, rfl⟩) (by assumption) ?_
        try simp only [Act.put, List.getElem_toArray, List.getElem_cons_zero, List.getElem_cons_succ, List.setIfInBounds_toArray, List.set_cons_zero, List.set_cons_succ]
        refine wpAnyH_take (i := 10) (v := undef) rfl (by kernel_rfl) (by kernel_rfl) (by kernel_rfl) (fun _ _ _ h => h) (Or.inr ⟨by rfl, rfl⟩) (by assumption) ?_
        try simp only [Act.put, List.getElem_toArray, List.getElem_cons_zero, List.getElem_cons_succ, List.setIfInBounds_toArray, List.set_cons_zero, List.set_cons_succ]
        refine wpAnyH_take (i := 11) (v := undef) rfl (by kernel_rfl) (by kernel_rfl) (by kernel_rfl) (fun _ _ _ h => h) (Or.inr ⟨by rfl, rfl⟩) (by assumption) ?_
        try simp only [Act.put, List.getElem_toArray, List.getElem_cons_zero, List.getElem_cons_succ, List.setIfInBounds_toArray, List.set_cons_zero, List.set_cons_succ]
        refine wpAnyH_take (i := 12) (v := undef) rfl (by kernel_rfl) (by kernel_rfl) (by kernel_rfl) (fun _ _ _ h => h) (Or.inr ⟨by rfl, rfl⟩) (by assumption) ?_
        try simp only [Act.put, List.getElem_toArray, List.getElem_cons_zero, List.getElem_cons_succ, List.setIfInBounds_toArray, List.set_cons_zero, List.set_cons_succ]
        refine wpAnyH_take (i := 13) (v := undef) rfl (by kernel_rfl) (by kernel_rfl) (by kernel_rfl) (fun _ _ _ h => h) (Or.inr ⟨by rfl, rfl⟩) (by assumption) ?_
        try simp only [Act.put, List.getElem_toArray, List.getElem_cons_zero, List.getElem_cons_succ, List.setIfInBounds_toArray, List.set_cons_zero, List.set_cons_succ]
        refine wpAnyH_take (i := 14) (v := undef) rfl (by kernel_rfl) (by kernel_rfl) (by kernel_rfl) (fun _ _ _ h => h) (Or.inr ⟨by rfl, rfl⟩) (by assumption) ?_
        try simp only [Act.put, List.getElem_toArray, List.getElem_cons_zero, List.getElem_cons_succ, List.setIfInBounds_toArray, List.set_cons_zero, List.set_cons_succ]
        refine wpAnyH_take (i := 15) (v := undef) rfl (by kernel_rfl) (by kernel_rfl) (by kernel_rfl) (fun _ _ _ h => h) (Or.inr ⟨by rfl, rfl⟩) (by assumption) ?_
        try simp only [Act.put, List.getElem_toArray, List.getElem_cons_zero, List.getElem_cons_succ, List.setIfInBounds_toArray, List.set_cons_zero, List.set_cons_succ]
        refine wpAnyH_take (i := 16) (v := undef) rfl (by kernel_rfl) (by kernel_rfl) (by kernel_rfl) (fun _ _ _ h => h) (Or.inr ⟨by rfl, rfl⟩) (by assumption) ?_
        try simp only [Act.put, List.getElem_toArray, List.getElem_cons_zero, List.getElem_cons_succ, List.setIfInBounds_toArray, List.set_cons_zero, List.set_cons_succ]
        refine wpAnyH_take (i := 17) (v := undef) rfl (by kernel_rfl) (by kernel_rfl) (by kernel_rfl) (fun _ _ _ h => h) (Or.inr ⟨by rfl, rfl⟩) (by assumption) ?_
        try simp only [Act.put, List.getElem_toArray, List.getElem_cons_zero, List.getElem_cons_succ, List.setIfInBounds_toArray, List.set_cons_zero, List.set_cons_succ]
        refine wpAnyH_take (i := 18) (v := undef) rfl (by kernel_rfl) (by kernel_rfl) (by kernel_rfl) (fun _ _ _ h => h) (Or.inr ⟨by rfl, rfl⟩) (by assumption) ?_
        try simp only [Act.put, List.getElem_toArray, List.getElem_cons_zero, List.getElem_cons_succ, List.setIfInBounds_toArray, List.set_cons_zero, List.set_cons_succ]
        refine wpAnyH_take (i := 19) (v := undef) rfl (by kernel_rfl) (by kernel_rfl) (by kernel_rfl) (fun _ _ _ h => h) (Or.inr ⟨by rfl, rfl⟩) (by assumption) ?_
        try simp only [Act.put, List.getElem_toArray, List.getElem_cons_zero, List.getElem_cons_succ, List.setIfInBounds_toArray, List.set_cons_zero, List.set_cons_succ]
        refine wpAnyH_take (i := 20) (v := undef) rfl (by kernel_rfl) (by kernel_rfl) (by kernel_rfl) (fun _ _ _ h => h) (Or.inr ⟨by rfl, rfl⟩) (by assumption) ?_
        try simp only [Act.put, List.getElem_toArray, List.getElem_cons_zero, List.getElem_cons_succ, List.setIfInBounds_toArray, List.set_cons_zero, List.set_cons_succ]
        refine wpAnyH_take (i := 21) (v := undef) rfl (by kernel_rfl) (by kernel_rfl) (by kernel_rfl) (fun _ _ _ h => h) (Or.inr ⟨by rfl, rfl⟩) (by assumption) ?_
        try simp only [Act.put, List.getElem_toArray, List.getElem_cons_zero, List.getElem_cons_succ, List.setIfInBounds_toArray, List.set_cons_zero, List.set_cons_succ]
        refine wpAnyH_take (i := 22) (v := ?_) rfl (by kernel_rfl) (by kernel_rfl) (by kernel_rfl) (fun _ _ _ h => h) (Or.inl ⟨by rfl, ?_⟩) (by assumption) ?_
        rotate_left
        · (intro wq hSw; (try dsimp only at hSw); go_simp <;> with_reducible rfl)
        try simp only [Act.put, List.getElem_toArray, List.getElem_cons_zero, List.getElem_cons_succ, List.setIfInBounds_toArray, List.set_cons_zero, List.set_cons_succ]
        refine wpAnyH_done (by kernel_rfl) ?_ _
        all_goals go_wp2_with fail
        all_goals
          go_ret
          exact ⟨ret_bool HF.out.symm, (hbel.trans (Below.mono (bfin0 (n := 1) (X := (wr.alloc (.cells #[.int .i64 (C k), .int .i64 (R k), .string (S k)] 84))) (by go_grown) (by go_grown)) hs))⟩
      have HO : Hid (refOkB (C k) (R k) = true) := ho
      clear ho
      match k, hk, hlt, HI, HO, c0, c1, c2, h0, h1 with
      | 0, hk, hlt, HI, HO, c0, c1, c2, h0, h1 =>
        have hR : riseAt C R 0 = true := by simp [riseAt, HO.out]
        have HI' : Hid (∀ i, i < 0 + 1 → riseAt C R i = true) := fun i hi => by rw [show i = 0 by omega]; exact hR
        simp only [Nat.zero_mul, Nat.add_zero] at c0 c1 c2
        clear hR
        go_wp2_with fail
        refine wp_region_held_drew (S := (fun w' => (∀ bq oq, bq < wr.heap.size + 1 → w'.cell? ⟨bq, oq, none⟩ = (wr.alloc (.cells #[.int .i64 (C 0), .int .i64 (R 0), .string (S 0)] 84)).cell? ⟨bq, oq, none⟩) ∧ wr.heap.size + 1 ≤ w'.heap.size ∧ Below (wr.heap.size + 1) (wr.alloc (.cells #[.int .i64 (C 0), .int .i64 (R 0), .string (S 0)] 84)) w')) (by kernel_rfl) (sc_of (by go_size) (by go_grown)) (fun hHeld => ?_)
        refine wpAnyH_take (i := 0) (v := ?_) rfl (by kernel_rfl) (by kernel_rfl) (by kernel_rfl) (fun _ _ _ h => h) (Or.inl ⟨by rfl, ?_⟩) (by assumption) ?_
        rotate_left
        · (intro wq hSw; (try dsimp only at hSw); go_simp <;> with_reducible rfl)
        try simp only [Act.put, List.getElem_toArray, List.getElem_cons_zero, List.getElem_cons_succ, List.setIfInBounds_toArray, List.set_cons_zero, List.set_cons_succ]
        refine wpAnyH_take (i := 1) (v := ?_) rfl (by kernel_rfl) (by kernel_rfl) (by kernel_rfl) (fun _ _ _ h => h) (Or.inl ⟨by rfl, ?_⟩) (by assumption) ?_
        rotate_left
        · (intro wq hSw; (try dsimp only at hSw); go_simp <;> with_reducible rfl)
        try simp only [Act.put, List.getElem_toArray, List.getElem_cons_zero, List.getElem_cons_succ, List.setIfInBounds_toArray, List.set_cons_zero, List.set_cons_succ]
        refine wpAnyH_ready (rs := [2]) (by kernel_rfl) (by simp) (AllReadyH.cons rfl (fun Kq hKq => ?_) AllReadyH.nil)
        go_simp
        (refine (impl_cellPlace _ _ _ _).mono ?_; rintro e w1 ⟨rfl, hb⟩; obtain ⟨hk1, hz1⟩ := bframe (B := wr.heap.size + 1) (X := (wr.alloc (.cells #[.int .i64 (C 0), .int .i64 (R 0), .string (S 0)] 84))) (by go_grown) (by go_size) hb; have hC := fun b o h => hk1.cell (p := ⟨b, o, none⟩) h; clear hb)
        refine hKq.out _ _ ?_ (fun hHeld => ?_)
        · exact sc_of (by go_size) (by go_grown)
        clear hKq Kq
        try simp only [Act.put, List.getElem_toArray, List.getElem_cons_zero, List.getElem_cons_succ, List.setIfInBounds_toArray, List.set_cons_zero, List.set_cons_succ]
        refine wpAnyH_ready (rs := [3]) (by kernel_rfl) (by simp) (AllReadyH.cons rfl (fun Kq hKq => ?_) AllReadyH.nil)
        go_simp
        (refine (impl_RefOk _ _ _).mono ?_; rintro e w1 ⟨rfl, hb⟩; rw [HO.out]; obtain ⟨hk1, hz1⟩ := bframe (B := wr.heap.size + 1) (X := (wr.alloc (.cells #[.int .i64 (C 0), .int .i64 (R 0), .string (S 0)] 84))) (by go_grown) (by go_size) hb; have hC := fun b o h => hk1.cell (p := ⟨b, o, none⟩) h; clear hb)
        refine hKq.out _ _ ?_ (fun hHeld => ?_)
        · exact sc_of (by go_size) (by go_grown)
        clear hKq Kq
        try simp only [Act.put, List.getElem_toArray, List.getElem_cons_zero, List.getElem_cons_succ, List.setIfInBounds_toArray, List.set_cons_zero, List.set_cons_succ]
        refine wpAnyH_take (i := 4) (v := ?_) rfl (by kernel_rfl) (by kernel_rfl) (by kernel_rfl) (fun _ _ _ h => h) (Or.inl ⟨by rfl, ?_⟩) (by assumption) ?_
        rotate_left
        · (intro wq hSw; (try dsimp only at hSw); go_simp <;> with_reducible rfl)
        try simp only [Act.put, List.getElem_toArray, List.getElem_cons_zero, List.getElem_cons_succ, List.setIfInBounds_toArray, List.set_cons_zero, List.set_cons_succ]
        refine wpAnyH_take (i := 5) (v := ?_) rfl (by kernel_rfl) (by kernel_rfl) (by kernel_rfl) (fun _ _ _ h => h) (Or.inl ⟨by rfl, ?_⟩) (by assumption) ?_
        rotate_left
        · (intro wq hSw; (try dsimp only at hSw); go_simp <;> with_reducible rfl)
        try simp only [Act.put, List.getElem_toArray, List.getElem_cons_zero, List.getElem_cons_succ, List.setIfInBounds_toArray, List.set_cons_zero, List.set_cons_succ]
        refine wpAnyH_take (i := 6) (v := ?_) rfl (by kernel_rfl) (by kernel_rfl) (by kernel_rfl) (fun _ _ _ h => h) (Or.inl ⟨by rfl, ?_⟩) (by assumption) ?_
        rotate_left
        · (intro wq hSw; (try dsimp only at hSw); go_simp <;> with_reducible rfl)
        try simp only [Act.put, List.getElem_toArray, List.getElem_cons_zero, List.getElem_cons_succ, List.setIfInBounds_toArray, List.set_cons_zero, List.set_cons_succ]
        refine wpAnyH_take (i := 7) (v := ?_) rfl (by kernel_rfl) (by kernel_rfl) (by kernel_rfl) (fun _ _ _ h => h) (Or.inl ⟨by rfl, ?_⟩) (by assumption) ?_
        rotate_left
        · (intro wq hSw; (try dsimp only at hSw); go_simp <;> with_reducible rfl)
        try simp only [Act.put, List.getElem_toArray, List.getElem_cons_zero, List.getElem_cons_succ, List.setIfInBounds_toArray, List.set_cons_zero, List.set_cons_succ]
        refine wpAnyH_take (i := 8) (v := ?_) rfl (by kernel_rfl) (by kernel_rfl) (by kernel_rfl) (fun _ _ _ h => h) (Or.inl ⟨by rfl, ?_⟩) (by assumption) ?_
        rotate_left
        · (intro wq hSw; (try dsimp only at hSw); go_simp <;> with_reducible rfl)
        try simp only [Act.put, List.getElem_toArray, List.getElem_cons_zero, List.getElem_cons_succ, List.setIfInBounds_toArray, List.set_cons_zero, List.set_cons_succ]
        refine wpAnyH_take (i := 9) (v := undef) rfl (by kernel_rfl) (by kernel_rfl) (by kernel_rfl) (fun _ _ _ h => h) (Or.inr ⟨by rfl, rfl⟩) (by assumption) ?_
        try simp only [Act.put, List.getElem_toArray, List.getElem_cons_zero, List.getElem_cons_succ, List.setIfInBounds_toArray, List.set_cons_zero, List.set_cons_succ]
        refine wpAnyH_take (i := 10) (v := undef) rfl (by kernel_rfl) (by kernel_rfl) (by kernel_rfl) (fun _ _ _ h => h) (Or.inr ⟨by rfl, rfl⟩) (by assumption) ?_
        try simp only [Act.put, List.getElem_toArray, List.getElem_cons_zero, List.getElem_cons_succ, List.setIfInBounds_toArray, List.set_cons_zero, List.set_cons_succ]
        refine wpAnyH_take (i := 11) (v := undef) rfl (by kernel_rfl) (by kernel_rfl) (by kernel_rfl) (fun _ _ _ h => h) (Or.inr ⟨by rfl, rfl⟩) (by assumption) ?_
        try simp only [Act.put, List.getElem_toArray, List.getElem_cons_zero, List.getElem_cons_succ, List.setIfInBounds_toArray, List.set_cons_zero, List.set_cons_succ]
        refine wpAnyH_take (i := 12) (v := undef) rfl (by kernel_rfl) (by kernel_rfl) (by kernel_rfl) (fun _ _ _ h => h) (Or.inr ⟨by rfl, rfl⟩) (by assumption) ?_
        try simp only [Act.put, List.getElem_toArray, List.getElem_cons_zero, List.getElem_cons_succ, List.setIfInBounds_toArray, List.set_cons_zero, List.set_cons_succ]
        refine wpAnyH_take (i := 13) (v := undef) rfl (by kernel_rfl) (by kernel_rfl) (by kernel_rfl) (fun _ _ _ h => h) (Or.inr ⟨by rfl, rfl⟩) (by assumption) ?_
        try simp only [Act.put, List.getElem_toArray, List.getElem_cons_zero, List.getElem_cons_succ, List.setIfInBounds_toArray, List.set_cons_zero, List.set_cons_succ]
        refine wpAnyH_take (i := 14) (v := undef) rfl (by kernel_rfl) (by kernel_rfl) (by kernel_rfl) (fun _ _ _ h => h) (Or.inr ⟨by rfl, rfl⟩) (by assumption) ?_
        try simp only [Act.put, List.getElem_toArray, List.getElem_cons_zero, List.getElem_cons_succ, List.setIfInBounds_toArray, List.set_cons_zero, List.set_cons_succ]
        refine wpAnyH_take (i := 15) (v := undef) rfl (by kernel_rfl) (by kernel_rfl) (by kernel_rfl) (fun _ _ _ h => h) (Or.inr ⟨by rfl, rfl⟩) (by assumption) ?_
        try simp only [Act.put, List.getElem_toArray, List.getElem_cons_zero, List.getElem_cons_succ, List.setIfInBounds_toArray, List.set_cons_zero, List.set_cons_succ]
        refine wpAnyH_take (i := 16) (v := undef) rfl (by kernel_rfl) (by kernel_rfl) (by kernel_rfl) (fun _ _ _ h => h) (Or.inr ⟨by rfl, rfl⟩) (by assumption) ?_
        try simp only [Act.put, List.getElem_toArray, List.getElem_cons_zero, List.getElem_cons_succ, List.setIfInBounds_toArray, List.set_cons_zero, List.set_cons_succ]
        refine wpAnyH_take (i := 17) (v := undef) rfl (by kernel_rfl) (by kernel_rfl) (by kernel_rfl) (fun _ _ _ h => h) (Or.inr ⟨by rfl, rfl⟩) (by assumption) ?_
        try simp only [Act.put, List.getElem_toArray, List.getElem_cons_zero, List.getElem_cons_succ, List.setIfInBounds_toArray, List.set_cons_zero, List.set_cons_succ]
        refine wpAnyH_take (i := 18) (v := undef) rfl (by kernel_rfl) (by kernel_rfl) (by kernel_rfl) (fun _ _ _ h => h) (Or.inr ⟨by rfl, rfl⟩) (by assumption) ?_
        try simp only [Act.put, List.getElem_toArray, List.getElem_cons_zero, List.getElem_cons_succ, List.setIfInBounds_toArray, List.set_cons_zero, List.set_cons_succ]
        refine wpAnyH_take (i := 19) (v := undef) rfl (by kernel_rfl) (by kernel_rfl) (by kernel_rfl) (fun _ _ _ h => h) (Or.inr ⟨by rfl, rfl⟩) (by assumption) ?_
        try simp only [Act.put, List.getElem_toArray, List.getElem_cons_zero, List.getElem_cons_succ, List.setIfInBounds_toArray, List.set_cons_zero, List.set_cons_succ]
        refine wpAnyH_take (i := 20) (v := undef) rfl (by kernel_rfl) (by kernel_rfl) (by kernel_rfl) (fun _ _ _ h => h) (Or.inr ⟨by rfl, rfl⟩) (by assumption) ?_
        try simp only [Act.put, List.getElem_toArray, List.getElem_cons_zero, List.getElem_cons_succ, List.setIfInBounds_toArray, List.set_cons_zero, List.set_cons_succ]
        refine wpAnyH_take (i := 21) (v := ?_) rfl (by kernel_rfl) (by kernel_rfl) (by kernel_rfl) (fun _ _ _ h => h) (Or.inl ⟨by rfl, ?_⟩) (by assumption) ?_
        rotate_left
        · (intro wq hSw; (try dsimp only at hSw); go_simp <;> with_reducible rfl)
        try simp only [Act.put, List.getElem_toArray, List.getElem_cons_zero, List.getElem_cons_succ, List.setIfInBounds_toArray, List.set_cons_zero, List.set_cons_succ]
        refine wpAnyH_take (i := 22) (v := ?_) rfl (by kernel_rfl) (by kernel_rfl) (by kernel_rfl) (fun _ _ _ h => h) (Or.inl ⟨by rfl, ?_⟩) (by assumption) ?_
        rotate_left
        · (intro wq hSw; (try dsimp only at hSw); go_simp <;> with_reducible rfl)
        try simp only [Act.put, List.getElem_toArray, List.getElem_cons_zero, List.getElem_cons_succ, List.setIfInBounds_toArray, List.set_cons_zero, List.set_cons_succ]
        refine wpAnyH_done (by kernel_rfl) ?_ _
        all_goals go_wp2_with fail
        all_goals
          go_roundw
          case rel => exact ⟨0 + 1, by omega, by go_num, HI'.out, (hbel.trans (Below.mono (bfin0 (n := 1) (X := (wr.alloc (.cells #[.int .i64 (C 0), .int .i64 (R 0), .string (S 0)] 84))) (by go_grown) (by go_grown)) hs))⟩
          case measure => simp [intOf]; omega
      | m + 1, hk, hlt, HI, HO, c0, c1, c2, h0, h1 =>
        obtain ⟨b', o', e', _, d0, d1, d2, _⟩ := HR.out.2 m (by omega)
        cases e'
        rw [← hbel.cell (p := ⟨_, _, none⟩) hl] at d0 d1 d2
        have p0 : (0 : Int) ≤ (m : Int) := by omega
        have p1 : (m : Int) < (n : Int) := by omega
        have p2 : IntKind.i64.wrap (m : Int) = (m : Int) := by rw [IntKind.wrap_i64]; omega
        have p3 : IntKind.i64.wrap ((m : Int) + 1 - 1) = (m : Int) := by rw [IntKind.wrap_i64]; omega
        cases ha : aheadB (C m) (R m) (C (m + 1)) (R (m + 1))
        · have HA : Hid (0 ≤ cmpR (C m) (R m) (C (m + 1)) (R (m + 1))) := (cmpR_ahead _ _ _ _).2 ha
          have hA := HA.out
          have HF : Hid (riseB C R n = false) := all_noC hlt (by simp [riseAt, ha])
          clear ha
          go_wp2_with fail
          go_region_held3 (fun w' => (∀ bq oq, bq < wr.heap.size + 1 → w'.cell? ⟨bq, oq, none⟩ = (wr.alloc (.cells #[.int .i64 (C (m + 1)), .int .i64 (R (m + 1)), .string (S (m + 1))] 84)).cell? ⟨bq, oq, none⟩) ∧ wr.heap.size + 1 ≤ w'.heap.size ∧ Below (wr.heap.size + 1) (wr.alloc (.cells #[.int .i64 (C (m + 1)), .int .i64 (R (m + 1)), .string (S (m + 1))] 84)) w')
            (exact sc_of (by go_size) (by go_grown))
            (first
            | (go_at_call 58; refine (impl_cellPlace _ _ _ _).mono ?_; rintro e w1 ⟨rfl, hb⟩; obtain ⟨hk1, hz1⟩ := bframe (B := wr.heap.size + 1) (X := (wr.alloc (.cells #[.int .i64 (C (m + 1)), .int .i64 (R (m + 1)), .string (S (m + 1))] 84))) (by go_grown) (by go_size) hb; have hC := fun b o h => hk1.cell (p := ⟨b, o, none⟩) h; clear hb)
            | (go_at_call 62; refine (impl_RefOk _ _ _).mono ?_; rintro e w1 ⟨rfl, hb⟩; rw [HO.out]; obtain ⟨hk1, hz1⟩ := bframe (B := wr.heap.size + 1) (X := (wr.alloc (.cells #[.int .i64 (C (m + 1)), .int .i64 (R (m + 1)), .string (S (m + 1))] 84))) (by go_grown) (by go_size) hb; have hC := fun b o h => hk1.cell (p := ⟨b, o, none⟩) h; clear hb)
            | (go_at_call 109; refine (impl_compareRefs _ _ _ _ _).mono ?_; rintro e w1 ⟨rfl, hb⟩; obtain ⟨hk1, hz1⟩ := bframe (B := wr.heap.size + 1) (X := (wr.alloc (.cells #[.int .i64 (C (m + 1)), .int .i64 (R (m + 1)), .string (S (m + 1))] 84))) (by go_grown) (by go_size) hb; have hC := fun b o h => hk1.cell (p := ⟨b, o, none⟩) h; clear hb))
          all_goals go_wp2_with fail
          all_goals
            go_ret
            exact ⟨ret_bool HF.out.symm, (hbel.trans (Below.mono (bfin0 (n := 1) (X := (wr.alloc (.cells #[.int .i64 (C (m + 1)), .int .i64 (R (m + 1)), .string (S (m + 1))] 84))) (by go_grown) (by go_grown)) hs))⟩
        · have hA : ¬ 0 ≤ cmpR (C m) (R m) (C (m + 1)) (R (m + 1)) := fun h => by rw [(cmpR_ahead _ _ _ _).1 h] at ha; cases ha
          have hR : riseAt C R (m + 1) = true := by simp [riseAt, HO.out, ha]
          have HI' : Hid (∀ i, i < m + 1 + 1 → riseAt C R i = true) := fun i hi => by
            by_cases e : i = m + 1
            · subst e; exact hR
            · exact HI.out i (by omega)
          clear ha hR
          go_wp2_with fail
          go_region_held3 (fun w' => (∀ bq oq, bq < wr.heap.size + 1 → w'.cell? ⟨bq, oq, none⟩ = (wr.alloc (.cells #[.int .i64 (C (m + 1)), .int .i64 (R (m + 1)), .string (S (m + 1))] 84)).cell? ⟨bq, oq, none⟩) ∧ wr.heap.size + 1 ≤ w'.heap.size ∧ Below (wr.heap.size + 1) (wr.alloc (.cells #[.int .i64 (C (m + 1)), .int .i64 (R (m + 1)), .string (S (m + 1))] 84)) w')
            (exact sc_of (by go_size) (by go_grown))
            (first
            | (go_at_call 58; refine (impl_cellPlace _ _ _ _).mono ?_; rintro e w1 ⟨rfl, hb⟩; obtain ⟨hk1, hz1⟩ := bframe (B := wr.heap.size + 1) (X := (wr.alloc (.cells #[.int .i64 (C (m + 1)), .int .i64 (R (m + 1)), .string (S (m + 1))] 84))) (by go_grown) (by go_size) hb; have hC := fun b o h => hk1.cell (p := ⟨b, o, none⟩) h; clear hb)
            | (go_at_call 62; refine (impl_RefOk _ _ _).mono ?_; rintro e w1 ⟨rfl, hb⟩; rw [HO.out]; obtain ⟨hk1, hz1⟩ := bframe (B := wr.heap.size + 1) (X := (wr.alloc (.cells #[.int .i64 (C (m + 1)), .int .i64 (R (m + 1)), .string (S (m + 1))] 84))) (by go_grown) (by go_size) hb; have hC := fun b o h => hk1.cell (p := ⟨b, o, none⟩) h; clear hb)
            | (go_at_call 109; refine (impl_compareRefs _ _ _ _ _).mono ?_; rintro e w1 ⟨rfl, hb⟩; obtain ⟨hk1, hz1⟩ := bframe (B := wr.heap.size + 1) (X := (wr.alloc (.cells #[.int .i64 (C (m + 1)), .int .i64 (R (m + 1)), .string (S (m + 1))] 84))) (by go_grown) (by go_size) hb; have hC := fun b o h => hk1.cell (p := ⟨b, o, none⟩) h; clear hb))
          all_goals go_wp2_with fail
          all_goals
            go_roundw
            case rel => exact ⟨m + 1 + 1, by omega, by go_num, HI'.out, (hbel.trans (Below.mono (bfin0 (n := 1) (X := (wr.alloc (.cells #[.int .i64 (C (m + 1)), .int .i64 (R (m + 1)), .string (S (m + 1))] 84))) (by go_grown) (by go_grown)) hs))⟩
            case measure => simp [intOf]; omega
    · have h1 : ¬ (k : Int) < (n : Int) := by omega
      obtain rfl : k = n := by omega
      go_wp2_with fail
      go_ret
      exact ⟨ret_bool (all_yesC HI.out).symm, hbel⟩
end Go.Proofs.YtbkklapkpiogoaaGreatDoor
namespace Go.Proofs.YtbkklapkpiogoaaGreatDoor
open Go.RowKit
set_option linter.unusedSimpArgs false
set_option linter.unusedVariables false

/-- Is a text its own source? -/
def ownB (s : ByteArray) : Bool := match inF s with
  | some t => t.toList == s.toList
  | none => false
def srcAt (S : Nat → ByteArray) (i : Nat) : Bool := !(S i).toList.isEmpty && ownB (S i)
def clOkB (C R : Nat → Int) (S : Nat → ByteArray) (n : Nat) : Bool := decide (n ≤ 120) && riseB C R n && (List.range n).all (srcAt S)
theorem clOk_big {C R : Nat → Int} {S : Nat → ByteArray} {n : Nat} (h : 120 < n) : clOkB C R S n = false := by
  have e : decide (n ≤ 120) = false := by simp; omega
  simp [clOkB, e]
theorem clOk_rise {C R : Nat → Int} {S : Nat → ByteArray} {n : Nat} (h : riseB C R n = false) : clOkB C R S n = false := by
  simp [clOkB, h]
theorem clOk_src {C R : Nat → Int} {S : Nat → ByteArray} {n k : Nat} (hk : k < n) (h : srcAt S k = false) : clOkB C R S n = false := by
  have e : (List.range n).all (srcAt S) = false := all_noC hk h
  simp [clOkB, e]
theorem clOk_yes {C R : Nat → Int} {S : Nat → ByteArray} {n : Nat} (h : n ≤ 120) (hr : riseB C R n = true) (hv : (List.range n).all (srcAt S) = true) : clOkB C R S n = true := by
  simp [clOkB, h, hr, hv]

set_option maxRecDepth 100000 in
set_option maxHeartbeats 1000000 in
theorem impl_isOwnSource (s : ByteArray) (w : World) (hs : s.size ≤ maxLen) (hg : GI w) : Calls Tryz.prog 59 #[.string s] w fun e w' => e = .returned (.bool (ownB s)) ∧ Below w.heap.size w w' := by
  have HG : Hid (GI w) := hg
  clear hg
  cases ho : inF s with
  | none =>
    have HO : Hid (inF s = none) := ho
    have HB : Hid (ownB s = false) := by show _ = _; unfold ownB; rw [ho]
    clear ho
    go_enter Tryz.func59, Tryz.ntmps59
    go_wp2_with fail
    refine (impl_InputOf s w hs HG.out).mono ?_
    rintro e u1 ⟨he, hb⟩
    rw [HO.out] at he
    obtain rfl : e = .returned (.tuple #[.string ⟨#[]⟩, .bool false]) := he
    go_wp2_with fail
    go_ret
    exact ⟨ret_bool HB.out.symm, hb⟩
  | some t =>
    have HO : Hid (inF s = some t) := ho
    have HB : Hid (ownB s = (t.toList == s.toList)) := by show _ = _; unfold ownB; rw [ho]
    clear ho
    go_enter Tryz.func59, Tryz.ntmps59
    go_wp2_with fail
    refine (impl_InputOf s w hs HG.out).mono ?_
    rintro e u1 ⟨he, hb⟩
    rw [HO.out] at he
    obtain rfl : e = .returned (.tuple #[.string t, .bool true]) := he
    go_wp2_with fail
    go_ret
    exact ⟨ret_bool HB.out.symm, hb⟩

set_option maxRecDepth 100000 in
set_option maxHeartbeats 4000000 in
theorem impl_SheetOk {A : Option Addr} {n cap : Nat} {C R : Nat → Int} {S : Nat → ByteArray} (w : World) (h : ClRow w A n C R S) (hg : GI w) :
    Calls Tryz.prog 20 #[.slice A n cap] w fun e w' => e = .returned (.bool (clOkB C R S n)) ∧ Below w.heap.size w w' := by
  have HR : Hid (ClRow w A n C R S) := h
  have HG : Hid (GI w) := hg
  have hn := h.1
  unfold maxLen at hn
  clear h hg
  by_cases hbig : (120 : Int) < (n : Int)
  · have HF : Hid (clOkB C R S n = false) := clOk_big (by omega)
    go_enter Tryz.func20, Tryz.ntmps20
    go_wp2_with fail
    go_ret
    exact ⟨ret_bool HF.out.symm, by go_grown⟩
  cases hrs : riseB C R n
  · have HRS : Hid (riseB C R n = false) := hrs
    have HF : Hid (clOkB C R S n = false) := clOk_rise hrs
    clear hrs
    go_enter Tryz.func20, Tryz.ntmps20
    go_wp2_with (go_at_call 57; refine (impl_placesRise_Cl _ HR.out).mono ?_; rintro e w1 ⟨rfl, hb⟩; rw [HRS.out])
    go_ret
    exact ⟨ret_bool HF.out.symm, by go_grown⟩
  have HRS : Hid (riseB C R n = true) := hrs
  clear hrs
  go_enter Tryz.func20, Tryz.ntmps20
  go_wp2_with fail
  refine (impl_placesRise_Cl _ HR.out).mono ?_
  rintro e w1 ⟨rfl, hb1⟩
  rw [HRS.out]
  go_wp2_with fail
  go_loopw [15] (fun i wr => ∃ k : Nat, k ≤ n ∧ i = .int .i64 k ∧ (∀ i, i < k → srcAt S i = true) ∧ Below w.heap.size w wr) (fun i _ => n - (intOf i).toNat)
  case atStart => exact ⟨0, Nat.zero_le _, rfl, fun i hi => by omega, hb1⟩
  case round =>
    clear hb1
    obtain ⟨k, hk, rfl, hr, hbel⟩ := hrel
    have HI : Hid (∀ i, i < k → srcAt S i = true) := hr
    clear hr
    by_cases hlt : k < n
    · obtain ⟨b, o, rfl, hl, c0, c1, c2, hsz⟩ := HR.out.2 k hlt
      have HS : Hid ((S k).size ≤ maxLen) := hsz
      clear hsz
      have hs := hbel.size
      have HGr : Hid (GI wr) := HG.out.below hbel
      rw [← hbel.cell (p := ⟨_, _, none⟩) hl] at c0 c1 c2
      have hl2 : b < wr.heap.size := Nat.lt_of_lt_of_le hl hs
      have h0 : (0 : Int) ≤ (k : Int) := by omega
      have h1 : (k : Int) < (n : Int) := by omega
      cases he : (S k).toList.isEmpty
      · cases hv : ownB (S k)
        · have HV : Hid (ownB (S k) = false) := hv
          have HF : Hid (clOkB C R S n = false) := clOk_src hlt (by simp [srcAt, hv])
          clear hv
          go_wp2_with (go_at_call 59; refine (impl_isOwnSource _ _ HS.out (HGr.out.below (by go_grown))).mono ?_; rintro e w2 ⟨rfl, hb⟩; rw [HV.out]; have hk1 := bchain (w := wr) (by go_grown) hb; clear hb)
          go_ret
          exact ⟨ret_bool HF.out.symm, bchain hbel (by go_grown)⟩
        · have HV : Hid (ownB (S k) = true) := hv
          have HT : Hid (srcAt S k = true) := by show _ = _; simp [srcAt, hv, he]
          clear hv
          go_wp2_with (go_at_call 59; refine (impl_isOwnSource _ _ HS.out (HGr.out.below (by go_grown))).mono ?_; rintro e w2 ⟨rfl, hb⟩; rw [HV.out]; have hk1 := bchain (w := wr) (by go_grown) hb; clear hb)
          go_roundw
          case rel => exact ⟨k + 1, by omega, by go_num, fun i hi => by
            by_cases e : i = k
            · subst e; exact HT.out
            · exact HI.out i (by omega), bchain hbel (by go_grown)⟩
          case measure => simp [intOf]; omega
      · have HF : Hid (clOkB C R S n = false) := clOk_src hlt (by simp [srcAt, he])
        go_wp2_with fail
        go_ret
        exact ⟨ret_bool HF.out.symm, bchain hbel (by go_grown)⟩
    · have h1 : ¬ (k : Int) < (n : Int) := by omega
      obtain rfl : k = n := by omega
      go_wp2_with fail
      go_ret
      exact ⟨ret_bool (clOk_yes (by omega) HRS.out (all_yesC HI.out)).symm, hbel⟩
end Go.Proofs.YtbkklapkpiogoaaGreatDoor
