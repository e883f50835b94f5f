import Derived.Test.YtljbnbapmjoecaaGreatDoorFnF
namespace Go.Proofs.YtljbnbapmjoecaaGreatDoor
open Go.RowKit
set_option linter.unusedSimpArgs false

theorem own_take {W : World} {B : Nat} {e : TypeId} {n m cap : Nat} {A : Option Addr} {xs : List Value} (h : W.ownsRow B e 1 (.slice A n cap) n xs) (hm : m ≤ n) : W.ownsRow B e 1 (.slice A m cap) m (xs.take m) := by
  refine ⟨by rw [List.length_take]; have := h.1; omega, ?_⟩
  rcases h.2 with ⟨h1, h2⟩ | ⟨g, cap', cur, h1, hb, hg, h2, h3, h4, h5⟩
  · cases h1
    obtain rfl : m = 0 := by omega
    exact .inl ⟨rfl, rfl⟩
  · cases h1
    refine .inr ⟨g, cap, cur, rfl, hb, hg, by omega, h3, h4, ?_⟩
    rw [← h5, List.take_take, Nat.mul_one, Nat.mul_one, Nat.min_eq_left hm]
theorem int_drop {W : World} {A : Option Addr} {s : List Int} (h : IntRow W A s) (dl cap : Nat) (hc : s.length ≤ cap) : IntRow W (if cap = dl then A else Option.map (fun x => x.add dl) A) (s.drop dl) := by
  refine ⟨Nat.le_trans (by rw [List.length_drop]; omega) h.1, fun i hi => ?_⟩
  rw [List.length_drop] at hi
  obtain ⟨b, o, rfl, hl, c⟩ := h.2 (dl + i) (by omega)
  rw [if_neg (by omega)]
  refine ⟨b, o + dl, by simp [Go.WideShapes.add_plain], hl, ?_⟩
  rw [Nat.add_assoc, c, List.getD_eq_getElem?_getD, List.getD_eq_getElem?_getD, List.getElem?_drop]
theorem slices_Equal' {A A' : Option Addr} {n n' cap cap' : Nat} {l l' : List Int} (d : Bool) (w : World) (hl : l.length = n) (hl' : l'.length = n') (h : IntRow w A l) (h' : IntRow w A' l') (HD : Hid (decide (l = l') = d)) :
    Calls Tryz.prog 101 #[.slice A n cap, .slice A' n' cap'] w fun e w' => e = .returned (.bool d) ∧ Below w.heap.size w w' := by
  subst hl hl'
  exact slices_Equal d w h h' HD
theorem map_take (s : List Int) (m : Nat) : (s.map (Value.int .i64)).take m = (s.take m).map (Value.int .i64) := by rw [List.map_take]

/-- Whether the stack ends in one root. -/
def kidsB (G : Nat → List Int) (n : Nat) : Bool := match stk G n with
  | some s => decide (s.length = 1)
  | none => false
theorem kidsB_none {G : Nat → List Int} {n : Nat} (h : stk G n = none) : kidsB G n = false := by rw [kidsB, h]
theorem kidsB_some {G : Nat → List Int} {n : Nat} {s : List Int} (h : stk G n = some s) : kidsB G n = decide (s.length = 1) := by rw [kidsB, h]

set_option maxRecDepth 100000 in
set_option maxHeartbeats 8000000 in
theorem impl_kidsInOrder {A : Option Addr} {n cap : Nat} {F : Nat → FN} (w : World) (HR : Hid (FnRow w A n F)) (hn : n ≤ 60) (hkn : ∀ i, i < n → (F i).kids.length ≤ 1048576) :
    Calls Tryz.prog 43 #[.slice A n cap] w fun e w' => e = .returned (.bool (kidsB (fun j => (F j).kids) n)) ∧ Below w.heap.size w w' := by
  obtain ⟨i0, hi, iz0, iz1, iz2⟩ := info_parts infoInt
  have HKN : Hid (∀ i, i < n → (F i).kids.length ≤ 1048576) := hkn
  clear hkn
  go_enter Tryz.func43, Tryz.ntmps43
  go_wp2_with fail
  go_loopw [3, 9] (fun v i wr => ∃ (k : Nat) (s : List Int), k ≤ n ∧ i = .int .i64 k ∧ stk (fun j => (F j).kids) k = some s ∧ s.length ≤ k ∧ wr.ownsRow w.heap.size 2 1 v s.length (s.map (Value.int .i64)) ∧ Below w.heap.size w wr) (fun _ i _ => n - (intOf i).toNat)
  case atStart => exact ⟨0, [], Nat.zero_le _, rfl, rfl, Nat.le_refl _, World.ownsRow_nil _ _ _ _, Below.refl _ _⟩
  case round =>
    obtain ⟨k, s, hk, rfl, hst, hsl, hown, hbel⟩ := hrel
    obtain ⟨SA, scap, hv, _, _⟩ := own_shape hown
    have HST : Hid (stk (fun j => (F j).kids) k = some s) := hst
    have HO : Hid (wr.ownsRow w.heap.size 2 1 u3 s.length (s.map (Value.int .i64))) := hown
    clear hst hown
    by_cases hlt : k < n
    · obtain ⟨b, o, KA, kc, rfl, hl, hnd, hki, hs⟩ := HR.out.2 k hlt
      obtain ⟨c0, c1, c2, c3, c4, c5, c6, c7, c8, c9, c10, c11, c12, c13⟩ := hnd.below hl (W' := wr) hbel
      have hll : b < wr.heap.size := Nat.lt_of_lt_of_le hl hbel.size
      have HKI : Hid (IntRow wr KA (F k).kids) := hki.below hbel
      have hkl := HKN.out k hlt
      obtain ⟨kl, HKL⟩ : ∃ kl, Hid ((F k).kids.length = kl) := ⟨_, rfl⟩
      obtain ⟨sl, HSL⟩ : ∃ sl, Hid (s.length = sl) := ⟨_, rfl⟩
      rw [HKL.out] at c13 hkl
      rw [HSL.out] at hv hsl
      have HB : Hid (Below w.heap.size w wr) := hbel
      have HBS : Hid (w.heap.size ≤ wr.heap.size) := hbel.size
      clear hnd hki hbel
      subst hv
      have h0 : (0 : Int) ≤ (k : Int) := by omega
      have h1 : (k : Int) < (n : Int) := by omega
      by_cases hneg : sl < kl
      · have g1 : (sl : Int) - (kl : Int) < 0 := by omega
        have HF : Hid (stk (fun j => (F j).kids) n = none) := by
          refine stk_none (i := k + 1) ?_ (by omega)
          rw [stk, HST.out]
          show (if _ then _ else _) = none
          rw [if_neg]
          rintro ⟨_, h2⟩
          have h3 : (F k).kids.length ≤ s.length := h2
          rw [HKL.out, HSL.out] at h3
          omega
        go_wp2_with fail
        refine wp_region_held_drew (S := (fun w' => (∀ bq oq, bq < wr.heap.size + 1 → w'.cell? ⟨bq, oq, none⟩ = (wr.alloc (.cells #[.int .i64 ((F k).k), .int .i64 ((F k).o), .int .i64 ((F k).ck), .int .i64 ((F k).cn), .string ((F k).cs), .int .i64 ((F k).ac), .int .i64 ((F k).ar), .bool ((F k).af), .bool ((F k).ag), .int .i64 ((F k).bc), .int .i64 ((F k).br), .bool ((F k).bf), .bool ((F k).bg), .slice KA kl kc] 60)).cell? ⟨bq, oq, none⟩) ∧ wr.heap.size + 1 ≤ w'.heap.size ∧ Below (wr.heap.size + 1) (wr.alloc (.cells #[.int .i64 ((F k).k), .int .i64 ((F k).o), .int .i64 ((F k).ck), .int .i64 ((F k).cn), .string ((F k).cs), .int .i64 ((F k).ac), .int .i64 ((F k).ar), .bool ((F k).af), .bool ((F k).ag), .int .i64 ((F k).bc), .int .i64 ((F k).br), .bool ((F k).bf), .bool ((F k).bg), .slice KA kl kc] 60)) w')) (by kernel_rfl) (sc_of (by go_size) (by go_grown)) (fun hHeld => ?_)
        refine wpAnyH_take (i := 0) (v := ?_) rfl (by kernel_rfl) (by kernel_rfl) (by kernel_rfl) (fun _ _ _ h => h) (Or.inl ⟨by rfl, ?_⟩) (by assumption) ?_
        rotate_left
        · (intro wq hSw; (try dsimp only at hSw); go_simp <;> with_reducible rfl)
        try simp only [Act.put, List.getElem_toArray, List.getElem_cons_zero, List.getElem_cons_succ, List.setIfInBounds_toArray, List.set_cons_zero, List.set_cons_succ]
        refine wpAnyH_take (i := 1) (v := ?_) rfl (by kernel_rfl) (by kernel_rfl) (by kernel_rfl) (fun _ _ _ h => h) (Or.inl ⟨by rfl, ?_⟩) (by assumption) ?_
        rotate_left
        · (intro wq hSw; (try dsimp only at hSw); go_simp <;> with_reducible rfl)
        try simp only [Act.put, List.getElem_toArray, List.getElem_cons_zero, List.getElem_cons_succ, List.setIfInBounds_toArray, List.set_cons_zero, List.set_cons_succ]
        refine wpAnyH_take (i := 2) (v := ?_) rfl (by kernel_rfl) (by kernel_rfl) (by kernel_rfl) (fun _ _ _ h => h) (Or.inl ⟨by rfl, ?_⟩) (by assumption) ?_
        rotate_left
        · (intro wq hSw; (try dsimp only at hSw); go_simp <;> with_reducible rfl)
        try simp only [Act.put, List.getElem_toArray, List.getElem_cons_zero, List.getElem_cons_succ, List.setIfInBounds_toArray, List.set_cons_zero, List.set_cons_succ]
        refine wpAnyH_take (i := 3) (v := undef) rfl (by kernel_rfl) (by kernel_rfl) (by kernel_rfl) (fun _ _ _ h => h) (Or.inr ⟨by rfl, rfl⟩) (by assumption) ?_
        try simp only [Act.put, List.getElem_toArray, List.getElem_cons_zero, List.getElem_cons_succ, List.setIfInBounds_toArray, List.set_cons_zero, List.set_cons_succ]
        refine wpAnyH_take (i := 4) (v := undef) rfl (by kernel_rfl) (by kernel_rfl) (by kernel_rfl) (fun _ _ _ h => h) (Or.inr ⟨by rfl, rfl⟩) (by assumption) ?_
        try simp only [Act.put, List.getElem_toArray, List.getElem_cons_zero, List.getElem_cons_succ, List.setIfInBounds_toArray, List.set_cons_zero, List.set_cons_succ]
        refine wpAnyH_take (i := 5) (v := undef) rfl (by kernel_rfl) (by kernel_rfl) (by kernel_rfl) (fun _ _ _ h => h) (Or.inr ⟨by rfl, rfl⟩) (by assumption) ?_
        try simp only [Act.put, List.getElem_toArray, List.getElem_cons_zero, List.getElem_cons_succ, List.setIfInBounds_toArray, List.set_cons_zero, List.set_cons_succ]
        refine wpAnyH_take (i := 6) (v := undef) rfl (by kernel_rfl) (by kernel_rfl) (by kernel_rfl) (fun _ _ _ h => h) (Or.inr ⟨by rfl, rfl⟩) (by assumption) ?_
        try simp only [Act.put, List.getElem_toArray, List.getElem_cons_zero, List.getElem_cons_succ, List.setIfInBounds_toArray, List.set_cons_zero, List.set_cons_succ]
        refine wpAnyH_take (i := 7) (v := undef) rfl (by kernel_rfl) (by kernel_rfl) (by kernel_rfl) (fun _ _ _ h => h) (Or.inr ⟨by rfl, rfl⟩) (by assumption) ?_
        try simp only [Act.put, List.getElem_toArray, List.getElem_cons_zero, List.getElem_cons_succ, List.setIfInBounds_toArray, List.set_cons_zero, List.set_cons_succ]
        refine wpAnyH_take (i := 8) (v := undef) rfl (by kernel_rfl) (by kernel_rfl) (by kernel_rfl) (fun _ _ _ h => h) (Or.inr ⟨by rfl, rfl⟩) (by assumption) ?_
        try simp only [Act.put, List.getElem_toArray, List.getElem_cons_zero, List.getElem_cons_succ, List.setIfInBounds_toArray, List.set_cons_zero, List.set_cons_succ]
        refine wpAnyH_take (i := 9) (v := undef) rfl (by kernel_rfl) (by kernel_rfl) (by kernel_rfl) (fun _ _ _ h => h) (Or.inr ⟨by rfl, rfl⟩) (by assumption) ?_
        try simp only [Act.put, List.getElem_toArray, List.getElem_cons_zero, List.getElem_cons_succ, List.setIfInBounds_toArray, List.set_cons_zero, List.set_cons_succ]
        refine wpAnyH_take (i := 10) (v := ?_) rfl (by kernel_rfl) (by kernel_rfl) (by kernel_rfl) (fun _ _ _ h => h) (Or.inl ⟨by rfl, ?_⟩) (by assumption) ?_
        rotate_left
        · (intro wq hSw; (try dsimp only at hSw); go_simp <;> with_reducible rfl)
        try simp only [Act.put, List.getElem_toArray, List.getElem_cons_zero, List.getElem_cons_succ, List.setIfInBounds_toArray, List.set_cons_zero, List.set_cons_succ]
        refine wpAnyH_done (by kernel_rfl) ?_ _
        go_wp2_with fail
        go_ret
        exact ⟨ret_bool (kidsB_none HF.out).symm, HB.out.trans (Below.mono (bfin (n := 1) (X := (wr.alloc (.cells #[.int .i64 ((F k).k), .int .i64 ((F k).o), .int .i64 ((F k).ck), .int .i64 ((F k).cn), .string ((F k).cs), .int .i64 ((F k).ac), .int .i64 ((F k).ar), .bool ((F k).af), .bool ((F k).ag), .int .i64 ((F k).bc), .int .i64 ((F k).br), .bool ((F k).bf), .bool ((F k).bg), .slice KA kl kc] 60))) (by go_grown) (by go_grown)) HBS.out)⟩
      obtain ⟨dl, hdl⟩ : ∃ dl : Nat, sl = kl + dl := ⟨sl - kl, by omega⟩
      have HDL : Hid (sl = kl + dl) := hdl
      have hde : (sl : Int) - (kl : Int) = (dl : Int) := by omega
      have g1 : ¬ (dl : Int) < 0 := by omega
      have g2 : (0 : Int) ≤ (dl : Int) := by omega
      have g3 : (dl : Int) ≤ (sl : Int) := by omega
      have HSC : Hid (sl ≤ scap) := by
        rcases HO.out.2 with ⟨h1, h2⟩ | ⟨g, cap', cur, h1, _, _, h2, _⟩
        · rw [HSL.out] at h2; show _ ≤ _; omega
        · cases h1; rw [HSL.out] at h2; exact h2
      have g4 : (dl : Int) ≤ (scap : Int) := by have := HSC.out; omega
      have g5 : (sl : Int) ≤ (scap : Int) := by have := HSC.out; omega
      clear hdl
      cases heq : decide (s.drop dl = (F k).kids)
      · have HEQ : Hid (decide (s.drop dl = (F k).kids) = false) := heq
        have HF : Hid (stk (fun j => (F j).kids) n = none) := by
          refine stk_none (i := k + 1) ?_ (by omega)
          rw [stk, HST.out]
          show (if _ then _ else _) = none
          rw [if_neg]
          rintro ⟨h2, _⟩
          have h3 : s.drop (s.length - (F k).kids.length) = (F k).kids := h2
          rw [HKL.out, HSL.out, show sl - kl = dl by have := HDL.out; omega] at h3
          simp [h3] at heq
        clear heq
        go_wp2_with fail
        refine wp_region_held_drew (S := (fun w' => (∀ bq oq, bq < wr.heap.size + 1 → w'.cell? ⟨bq, oq, none⟩ = (wr.alloc (.cells #[.int .i64 ((F k).k), .int .i64 ((F k).o), .int .i64 ((F k).ck), .int .i64 ((F k).cn), .string ((F k).cs), .int .i64 ((F k).ac), .int .i64 ((F k).ar), .bool ((F k).af), .bool ((F k).ag), .int .i64 ((F k).bc), .int .i64 ((F k).br), .bool ((F k).bf), .bool ((F k).bg), .slice KA kl kc] 60)).cell? ⟨bq, oq, none⟩) ∧ wr.heap.size + 1 ≤ w'.heap.size ∧ Below (wr.heap.size + 1) (wr.alloc (.cells #[.int .i64 ((F k).k), .int .i64 ((F k).o), .int .i64 ((F k).ck), .int .i64 ((F k).cn), .string ((F k).cs), .int .i64 ((F k).ac), .int .i64 ((F k).ar), .bool ((F k).af), .bool ((F k).ag), .int .i64 ((F k).bc), .int .i64 ((F k).br), .bool ((F k).bf), .bool ((F k).bg), .slice KA kl kc] 60)) w')) (by kernel_rfl) (sc_of (by go_size) (by go_grown)) (fun hHeld => ?_)
        refine wpAnyH_take (i := 0) (v := ?_) rfl (by kernel_rfl) (by kernel_rfl) (by kernel_rfl) (fun _ _ _ h => h) (Or.inl ⟨by rfl, ?_⟩) (by assumption) ?_
        rotate_left
        · (intro wq hSw; (try dsimp only at hSw); go_simp <;> with_reducible rfl)
        try simp only [Act.put, List.getElem_toArray, List.getElem_cons_zero, List.getElem_cons_succ, List.setIfInBounds_toArray, List.set_cons_zero, List.set_cons_succ]
        refine wpAnyH_take (i := 1) (v := ?_) rfl (by kernel_rfl) (by kernel_rfl) (by kernel_rfl) (fun _ _ _ h => h) (Or.inl ⟨by rfl, ?_⟩) (by assumption) ?_
        rotate_left
        · (intro wq hSw; (try dsimp only at hSw); go_simp <;> with_reducible rfl)
        try simp only [Act.put, List.getElem_toArray, List.getElem_cons_zero, List.getElem_cons_succ, List.setIfInBounds_toArray, List.set_cons_zero, List.set_cons_succ]
        refine wpAnyH_take (i := 2) (v := ?_) rfl (by kernel_rfl) (by kernel_rfl) (by kernel_rfl) (fun _ _ _ h => h) (Or.inl ⟨by rfl, ?_⟩) (by assumption) ?_
        rotate_left
        · (intro wq hSw; (try dsimp only at hSw); go_simp <;> with_reducible rfl)
        try simp only [Act.put, List.getElem_toArray, List.getElem_cons_zero, List.getElem_cons_succ, List.setIfInBounds_toArray, List.set_cons_zero, List.set_cons_succ]
        refine wpAnyH_take (i := 3) (v := ?_) rfl (by kernel_rfl) (by kernel_rfl) (by kernel_rfl) (fun _ _ _ h => h) (Or.inl ⟨by rfl, ?_⟩) (by assumption) ?_
        rotate_left
        · (intro wq hSw; (try dsimp only at hSw); go_simp <;> with_reducible rfl)
        try simp only [Act.put, List.getElem_toArray, List.getElem_cons_zero, List.getElem_cons_succ, List.setIfInBounds_toArray, List.set_cons_zero, List.set_cons_succ]
        refine wpAnyH_take (i := 4) (v := ?_) rfl (by kernel_rfl) (by kernel_rfl) (by kernel_rfl) (fun _ _ _ h => h) (Or.inl ⟨by rfl, ?_⟩) (by assumption) ?_
        rotate_left
        · (intro wq hSw; (try dsimp only at hSw); go_simp <;> with_reducible rfl)
        try simp only [Act.put, List.getElem_toArray, List.getElem_cons_zero, List.getElem_cons_succ, List.setIfInBounds_toArray, List.set_cons_zero, List.set_cons_succ]
        refine wpAnyH_take (i := 5) (v := ?_) rfl (by kernel_rfl) (by kernel_rfl) (by kernel_rfl) (fun _ _ _ h => h) (Or.inl ⟨by rfl, ?_⟩) (by assumption) ?_
        rotate_left
        · (intro wq hSw; (try dsimp only at hSw); go_simp <;> with_reducible rfl)
        try simp only [Act.put, List.getElem_toArray, List.getElem_cons_zero, List.getElem_cons_succ, List.setIfInBounds_toArray, List.set_cons_zero, List.set_cons_succ]
        refine wpAnyH_take (i := 6) (v := ?_) rfl (by kernel_rfl) (by kernel_rfl) (by kernel_rfl) (fun _ _ _ h => h) (Or.inl ⟨by rfl, ?_⟩) (by assumption) ?_
        rotate_left
        · (intro wq hSw; (try dsimp only at hSw); go_simp <;> with_reducible rfl)
        try simp only [Act.put, List.getElem_toArray, List.getElem_cons_zero, List.getElem_cons_succ, List.setIfInBounds_toArray, List.set_cons_zero, List.set_cons_succ]
        refine wpAnyH_take (i := 7) (v := ?_) rfl (by kernel_rfl) (by kernel_rfl) (by kernel_rfl) (fun _ _ _ h => h) (Or.inl ⟨by rfl, ?_⟩) (by assumption) ?_
        rotate_left
        · (intro wq hSw; (try dsimp only at hSw); go_simp <;> with_reducible rfl)
        try simp only [Act.put, List.getElem_toArray, List.getElem_cons_zero, List.getElem_cons_succ, List.setIfInBounds_toArray, List.set_cons_zero, List.set_cons_succ]
        refine wpAnyH_ready (rs := [8]) (by kernel_rfl) (by simp) (AllReadyH.cons rfl (fun Kq hKq => ?_) AllReadyH.nil)
        go_simp
        (refine (slices_Equal' false _ ?_ ?_ ?_ ?_ HEQ).mono ?_; (focus (rw [List.length_drop, HSL.out])); (focus (exact HKL.out)); (focus (exact (int_drop (IntRow.below (int_of_own (by have hh := HO.out; rw [HSL.out] at hh; rw [HSL.out]; exact hh)) (by go_grown)) dl scap (by rw [HSL.out]; exact HSC.out)))); (focus (exact HKI.out.below (by go_grown))); rintro e w1 ⟨rfl, hb⟩; obtain ⟨hk1, hz1⟩ := bframe (B := wr.heap.size + 1) (X := (wr.alloc (.cells #[.int .i64 ((F k).k), .int .i64 ((F k).o), .int .i64 ((F k).ck), .int .i64 ((F k).cn), .string ((F k).cs), .int .i64 ((F k).ac), .int .i64 ((F k).ar), .bool ((F k).af), .bool ((F k).ag), .int .i64 ((F k).bc), .int .i64 ((F k).br), .bool ((F k).bf), .bool ((F k).bg), .slice KA kl kc] 60))) (by go_grown) (by go_size) hb; have hC := fun b o h => hk1.cell (p := ⟨b, o, none⟩) h; clear hb)
        refine hKq.out _ _ ?_ (fun hHeld => ?_)
        · exact sc_of (by go_size) (by go_grown)
        clear hKq Kq
        try simp only [Act.put, List.getElem_toArray, List.getElem_cons_zero, List.getElem_cons_succ, List.setIfInBounds_toArray, List.set_cons_zero, List.set_cons_succ]
        refine wpAnyH_take (i := 9) (v := ?_) rfl (by kernel_rfl) (by kernel_rfl) (by kernel_rfl) (fun _ _ _ h => h) (Or.inl ⟨by rfl, ?_⟩) (by assumption) ?_
        rotate_left
        · (intro wq hSw; (try dsimp only at hSw); go_simp <;> with_reducible rfl)
        try simp only [Act.put, List.getElem_toArray, List.getElem_cons_zero, List.getElem_cons_succ, List.setIfInBounds_toArray, List.set_cons_zero, List.set_cons_succ]
        refine wpAnyH_take (i := 10) (v := ?_) rfl (by kernel_rfl) (by kernel_rfl) (by kernel_rfl) (fun _ _ _ h => h) (Or.inl ⟨by rfl, ?_⟩) (by assumption) ?_
        rotate_left
        · (intro wq hSw; (try dsimp only at hSw); go_simp <;> with_reducible rfl)
        try simp only [Act.put, List.getElem_toArray, List.getElem_cons_zero, List.getElem_cons_succ, List.setIfInBounds_toArray, List.set_cons_zero, List.set_cons_succ]
        refine wpAnyH_done (by kernel_rfl) ?_ _
        generalize (Value.slice (if scap = dl then SA else Option.map (fun x => x.add dl) SA) (sl - dl) (scap - dl)) = vjunk
        go_wp2_with fail
        go_ret
        exact ⟨ret_bool (kidsB_none HF.out).symm, HB.out.trans (Below.mono (bfin (n := 1) (X := (wr.alloc (.cells #[.int .i64 ((F k).k), .int .i64 ((F k).o), .int .i64 ((F k).ck), .int .i64 ((F k).cn), .string ((F k).cs), .int .i64 ((F k).ac), .int .i64 ((F k).ar), .bool ((F k).af), .bool ((F k).ag), .int .i64 ((F k).bc), .int .i64 ((F k).br), .bool ((F k).bf), .bool ((F k).bg), .slice KA kl kc] 60))) (by go_grown) (by go_grown)) HBS.out)⟩
      · have HEQ : Hid (decide (s.drop dl = (F k).kids) = true) := heq
        have HS1 : Hid (stk (fun j => (F j).kids) (k + 1) = some (s.take dl ++ [(k : Int)])) := by
          show _ = _
          rw [stk, HST.out]
          show (if _ then _ else _) = _
          have e1 : s.length - ((F k).kids).length = dl := by rw [HKL.out, HSL.out]; have := HDL.out; omega
          rw [e1, if_pos ⟨of_decide_eq_true heq, by rw [HKL.out, HSL.out]; have := HDL.out; omega⟩]
        have HLT : Hid ((s.take dl ++ [(k : Int)]).length = dl + 1) := by show _ = _; rw [List.length_append, List.length_take, HSL.out]; simp; omega
        clear heq
        go_wp2_with fail
        refine wp_region_held_drew (S := (fun w' => (∀ bq oq, bq < wr.heap.size + 1 → w'.cell? ⟨bq, oq, none⟩ = (wr.alloc (.cells #[.int .i64 ((F k).k), .int .i64 ((F k).o), .int .i64 ((F k).ck), .int .i64 ((F k).cn), .string ((F k).cs), .int .i64 ((F k).ac), .int .i64 ((F k).ar), .bool ((F k).af), .bool ((F k).ag), .int .i64 ((F k).bc), .int .i64 ((F k).br), .bool ((F k).bf), .bool ((F k).bg), .slice KA kl kc] 60)).cell? ⟨bq, oq, none⟩) ∧ wr.heap.size + 1 ≤ w'.heap.size ∧ Below (wr.heap.size + 1) (wr.alloc (.cells #[.int .i64 ((F k).k), .int .i64 ((F k).o), .int .i64 ((F k).ck), .int .i64 ((F k).cn), .string ((F k).cs), .int .i64 ((F k).ac), .int .i64 ((F k).ar), .bool ((F k).af), .bool ((F k).ag), .int .i64 ((F k).bc), .int .i64 ((F k).br), .bool ((F k).bf), .bool ((F k).bg), .slice KA kl kc] 60)) w')) (by kernel_rfl) (sc_of (by go_size) (by go_grown)) (fun hHeld => ?_)
        refine wpAnyH_take (i := 0) (v := ?_) rfl (by kernel_rfl) (by kernel_rfl) (by kernel_rfl) (fun _ _ _ h => h) (Or.inl ⟨by rfl, ?_⟩) (by assumption) ?_
        rotate_left
        · (intro wq hSw; (try dsimp only at hSw); go_simp <;> with_reducible rfl)
        try simp only [Act.put, List.getElem_toArray, List.getElem_cons_zero, List.getElem_cons_succ, List.setIfInBounds_toArray, List.set_cons_zero, List.set_cons_succ]
        refine wpAnyH_take (i := 1) (v := ?_) rfl (by kernel_rfl) (by kernel_rfl) (by kernel_rfl) (fun _ _ _ h => h) (Or.inl ⟨by rfl, ?_⟩) (by assumption) ?_
        rotate_left
        · (intro wq hSw; (try dsimp only at hSw); go_simp <;> with_reducible rfl)
        try simp only [Act.put, List.getElem_toArray, List.getElem_cons_zero, List.getElem_cons_succ, List.setIfInBounds_toArray, List.set_cons_zero, List.set_cons_succ]
        refine wpAnyH_take (i := 2) (v := ?_) rfl (by kernel_rfl) (by kernel_rfl) (by kernel_rfl) (fun _ _ _ h => h) (Or.inl ⟨by rfl, ?_⟩) (by assumption) ?_
        rotate_left
        · (intro wq hSw; (try dsimp only at hSw); go_simp <;> with_reducible rfl)
        try simp only [Act.put, List.getElem_toArray, List.getElem_cons_zero, List.getElem_cons_succ, List.setIfInBounds_toArray, List.set_cons_zero, List.set_cons_succ]
        refine wpAnyH_take (i := 3) (v := ?_) rfl (by kernel_rfl) (by kernel_rfl) (by kernel_rfl) (fun _ _ _ h => h) (Or.inl ⟨by rfl, ?_⟩) (by assumption) ?_
        rotate_left
        · (intro wq hSw; (try dsimp only at hSw); go_simp <;> with_reducible rfl)
        try simp only [Act.put, List.getElem_toArray, List.getElem_cons_zero, List.getElem_cons_succ, List.setIfInBounds_toArray, List.set_cons_zero, List.set_cons_succ]
        refine wpAnyH_take (i := 4) (v := ?_) rfl (by kernel_rfl) (by kernel_rfl) (by kernel_rfl) (fun _ _ _ h => h) (Or.inl ⟨by rfl, ?_⟩) (by assumption) ?_
        rotate_left
        · (intro wq hSw; (try dsimp only at hSw); go_simp <;> with_reducible rfl)
        try simp only [Act.put, List.getElem_toArray, List.getElem_cons_zero, List.getElem_cons_succ, List.setIfInBounds_toArray, List.set_cons_zero, List.set_cons_succ]
        refine wpAnyH_take (i := 5) (v := ?_) rfl (by kernel_rfl) (by kernel_rfl) (by kernel_rfl) (fun _ _ _ h => h) (Or.inl ⟨by rfl, ?_⟩) (by assumption) ?_
        rotate_left
        · (intro wq hSw; (try dsimp only at hSw); go_simp <;> with_reducible rfl)
        try simp only [Act.put, List.getElem_toArray, List.getElem_cons_zero, List.getElem_cons_succ, List.setIfInBounds_toArray, List.set_cons_zero, List.set_cons_succ]
        refine wpAnyH_take (i := 6) (v := ?_) rfl (by kernel_rfl) (by kernel_rfl) (by kernel_rfl) (fun _ _ _ h => h) (Or.inl ⟨by rfl, ?_⟩) (by assumption) ?_
        rotate_left
        · (intro wq hSw; (try dsimp only at hSw); go_simp <;> with_reducible rfl)
        try simp only [Act.put, List.getElem_toArray, List.getElem_cons_zero, List.getElem_cons_succ, List.setIfInBounds_toArray, List.set_cons_zero, List.set_cons_succ]
        refine wpAnyH_take (i := 7) (v := ?_) rfl (by kernel_rfl) (by kernel_rfl) (by kernel_rfl) (fun _ _ _ h => h) (Or.inl ⟨by rfl, ?_⟩) (by assumption) ?_
        rotate_left
        · (intro wq hSw; (try dsimp only at hSw); go_simp <;> with_reducible rfl)
        try simp only [Act.put, List.getElem_toArray, List.getElem_cons_zero, List.getElem_cons_succ, List.setIfInBounds_toArray, List.set_cons_zero, List.set_cons_succ]
        refine wpAnyH_ready (rs := [8]) (by kernel_rfl) (by simp) (AllReadyH.cons rfl (fun Kq hKq => ?_) AllReadyH.nil)
        go_simp
        (refine (slices_Equal' true _ ?_ ?_ ?_ ?_ HEQ).mono ?_; (focus (rw [List.length_drop, HSL.out])); (focus (exact HKL.out)); (focus (exact (int_drop (IntRow.below (int_of_own (by have hh := HO.out; rw [HSL.out] at hh; rw [HSL.out]; exact hh)) (by go_grown)) dl scap (by rw [HSL.out]; exact HSC.out)))); (focus (exact HKI.out.below (by go_grown))); rintro e w1 ⟨rfl, hb⟩; obtain ⟨hk1, hz1⟩ := bframe (B := wr.heap.size + 1) (X := (wr.alloc (.cells #[.int .i64 ((F k).k), .int .i64 ((F k).o), .int .i64 ((F k).ck), .int .i64 ((F k).cn), .string ((F k).cs), .int .i64 ((F k).ac), .int .i64 ((F k).ar), .bool ((F k).af), .bool ((F k).ag), .int .i64 ((F k).bc), .int .i64 ((F k).br), .bool ((F k).bf), .bool ((F k).bg), .slice KA kl kc] 60))) (by go_grown) (by go_size) hb; have hC := fun b o h => hk1.cell (p := ⟨b, o, none⟩) h; clear hb)
        refine hKq.out _ _ ?_ (fun hHeld => ?_)
        · exact sc_of (by go_size) (by go_grown)
        clear hKq Kq
        try simp only [Act.put, List.getElem_toArray, List.getElem_cons_zero, List.getElem_cons_succ, List.setIfInBounds_toArray, List.set_cons_zero, List.set_cons_succ]
        refine wpAnyH_take (i := 9) (v := ?_) rfl (by kernel_rfl) (by kernel_rfl) (by kernel_rfl) (fun _ _ _ h => h) (Or.inl ⟨by rfl, ?_⟩) (by assumption) ?_
        rotate_left
        · (intro wq hSw; (try dsimp only at hSw); go_simp <;> with_reducible rfl)
        try simp only [Act.put, List.getElem_toArray, List.getElem_cons_zero, List.getElem_cons_succ, List.setIfInBounds_toArray, List.set_cons_zero, List.set_cons_succ]
        refine wpAnyH_take (i := 10) (v := ?_) rfl (by kernel_rfl) (by kernel_rfl) (by kernel_rfl) (fun _ _ _ h => h) (Or.inl ⟨by rfl, ?_⟩) (by assumption) ?_
        rotate_left
        · (intro wq hSw; (try dsimp only at hSw); go_simp <;> with_reducible rfl)
        try simp only [Act.put, List.getElem_toArray, List.getElem_cons_zero, List.getElem_cons_succ, List.setIfInBounds_toArray, List.set_cons_zero, List.set_cons_succ]
        refine wpAnyH_done (by kernel_rfl) ?_ _
        generalize (Value.slice (if scap = dl then SA else Option.map (fun x => x.add dl) SA) (sl - dl) (scap - dl)) = vjunk
        have HO1 : Hid (w1.ownsRow w.heap.size 2 1 (.slice SA dl scap) dl ((s.take dl).map (Value.int .i64))) := by
          have hh := own_below (HO.out.alloc (.cells #[.int .i64 ((F k).k), .int .i64 ((F k).o), .int .i64 ((F k).ck), .int .i64 ((F k).cn), .string ((F k).cs), .int .i64 ((F k).ac), .int .i64 ((F k).ar), .bool ((F k).af), .bool ((F k).ag), .int .i64 ((F k).bc), .int .i64 ((F k).br), .bool ((F k).bf), .bool ((F k).bg), .slice KA kl kc] 60)) (w' := w1) (by simpa using hk1)
          rw [HSL.out] at hh
          have h2 := own_take hh (m := dl) (by omega)
          rw [map_take] at h2
          exact h2
        have HB1 : Hid (Below w.heap.size w w1) := HB.out.trans (Below.mono (bfin (n := 1) (X := (wr.alloc (.cells #[.int .i64 ((F k).k), .int .i64 ((F k).o), .int .i64 ((F k).ck), .int .i64 ((F k).cn), .string ((F k).cs), .int .i64 ((F k).ac), .int .i64 ((F k).ar), .bool ((F k).af), .bool ((F k).ag), .int .i64 ((F k).bc), .int .i64 ((F k).br), .bool ((F k).bf), .bool ((F k).bg), .slice KA kl kc] 60))) (by go_grown) hk1) HBS.out)
        have hw1 : w.heap.size ≤ w1.heap.size := HB1.out.size
        clear hk1 hC
        go_wp2_with (first
          | (at_builtin; refine wpList_append_own _ rfl _ _ 58 rfl w.heap.size 2 i0 (.int .i64 0) 1 8 Tryz.underlying58 hi iz0 iz1 iz2 rfl (by decide) _ _ _ rfl (HO1.out.alloc _) ⟨w1.heap.size, 0, none⟩ 1 1 [.int .i64 k] rfl rfl ?c1 ?c2 ?c3 ?c4 ?c5 ?_)
          | go_in)
        case c1 =>
          intro q u hq
          match q, hq with
          | 0, hq => simp at hq; subst hq; simp [Addr.add]
        case c2 => intro u hu; simp at hu; subst hu; rfl
        case c3 => unfold maxLen; omega
        case c4 => omega
        case c5 => simp; omega
        intro v' w2 hown' hgrow _
        have R2 : Hid (Below w.heap.size w w2) := (HB1.out.alloc HB1.out.size _).grown hgrow (by simp; omega) (fun q hq => by have := (HO1.out.lt q hq).1; omega)
        have HOW : Hid (w2.ownsRow w.heap.size 2 1 v' (s.take dl ++ [(k : Int)]).length ((s.take dl ++ [(k : Int)]).map (Value.int .i64))) := by
          show World.ownsRow _ _ _ _ _ _ _
          rw [HLT.out, List.map_append, ← map_take]
          exact hown'
        clear hown' hgrow HO1
        go_wp2_with fail
        go_roundw
        case rel => exact ⟨k + 1, s.take dl ++ [(k : Int)], by omega, by go_num, HS1.out, by rw [HLT.out]; omega, HOW.out, R2.out⟩
        case measure => simp [intOf]; omega
    · have h1 : ¬ (k : Int) < (n : Int) := by omega
      obtain rfl : k = n := by omega
      subst hv
      have HE : Hid (((s.length : Int) == 1) = kidsB (fun j => (F j).kids) k) := by show _ = _; rw [kidsB_some HST.out, Bool.eq_iff_iff]; simp; omega
      go_wp2_with fail
      go_ret
      exact ⟨ret_bool HE.out, hbel⟩
end Go.Proofs.YtljbnbapmjoecaaGreatDoor
