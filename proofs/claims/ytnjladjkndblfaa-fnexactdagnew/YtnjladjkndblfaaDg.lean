import Derived.Test.YtnjladjkndblfaaChA
namespace Go.Proofs.Ytnjladjkndblfaa
open Go.RowKit
set_option linter.unusedSimpArgs false
set_option linter.unusedVariables false

/-! ### Rows of nothing -/
set_option maxHeartbeats 1000000 in
theorem laws_markInt64S_nil (k : Int) (w : World) : Calls Try.prog 17 #[.slice none 0 0, .int .i64 k] w fun e w' => e = .returned (.int .i64 k) ∧ w' = w := by
  go_enter Try.func17, Try.ntmps17
  go_wp2_with fail
  go_loop [1, 5] (fun q i => q = .int .i64 k ∧ i = .int .i64 0) (fun _ _ => 0)
  case atStart => exact ⟨rfl, rfl⟩
  case round =>
    obtain ⟨rfl, rfl⟩ := hrel
    go_wp2_with fail
    go_ret
    exact ⟨rfl, rfl⟩
set_option maxHeartbeats 1000000 in
theorem laws_markCellS_nil (k : Int) (w : World) : Calls Try.prog 18 #[.slice none 0 0, .int .i64 k] w fun e w' => e = .returned (.int .i64 k) ∧ w' = w := by
  go_enter Try.func18, Try.ntmps18
  go_wp2_with fail
  go_loop [1, 5] (fun q i => q = .int .i64 k ∧ i = .int .i64 0) (fun _ _ => 0)
  case atStart => exact ⟨rfl, rfl⟩
  case round =>
    obtain ⟨rfl, rfl⟩ := hrel
    go_wp2_with fail
    go_ret
    exact ⟨rfl, rfl⟩
set_option maxHeartbeats 1000000 in
theorem laws_heldInt64S_nil (k : Int) (w : World) : Calls Try.prog 20 #[.slice none 0 0, .int .i64 k] w fun e w' => e = .returned (.int .i64 k) ∧ w' = w := by
  go_enter Try.func20, Try.ntmps20
  go_wp2_with fail
  go_loop [1, 5] (fun q i => q = .int .i64 k ∧ i = .int .i64 0) (fun _ _ => 0)
  case atStart => exact ⟨rfl, rfl⟩
  case round =>
    obtain ⟨rfl, rfl⟩ := hrel
    go_wp2_with fail
    go_ret
    exact ⟨rfl, rfl⟩
set_option maxHeartbeats 1000000 in
theorem laws_heldCellS_nil (k : Int) (w : World) : Calls Try.prog 21 #[.slice none 0 0, .int .i64 k] w fun e w' => e = .returned (.int .i64 k) ∧ w' = w := by
  go_enter Try.func21, Try.ntmps21
  go_wp2_with fail
  go_loop [1, 5] (fun q i => q = .int .i64 k ∧ i = .int .i64 0) (fun _ _ => 0)
  case atStart => exact ⟨rfl, rfl⟩
  case round =>
    obtain ⟨rfl, rfl⟩ := hrel
    go_wp2_with fail
    go_ret
    exact ⟨rfl, rfl⟩
set_option maxHeartbeats 1000000 in
theorem laws_eqInt64S_nil (w : World) : Calls Try.prog 22 #[.slice none 0 0, .slice none 0 0] w fun e w' => e = .returned (.bool true) ∧ w' = w := by
  go_enter Try.func22, Try.ntmps22
  go_wp2_with fail
  go_loop [5] (fun i => i = .int .i64 0) (fun _ => 0)
  case atStart => rfl
  case round =>
    subst hrel
    go_wp2_with fail
    go_ret
    exact ⟨rfl, rfl⟩
set_option maxHeartbeats 1000000 in
theorem laws_eqCellS_nil (w : World) : Calls Try.prog 23 #[.slice none 0 0, .slice none 0 0] w fun e w' => e = .returned (.bool true) ∧ w' = w := by
  go_enter Try.func23, Try.ntmps23
  go_wp2_with fail
  go_loop [5] (fun i => i = .int .i64 0) (fun _ => 0)
  case atStart => rfl
  case round =>
    subst hrel
    go_wp2_with fail
    go_ret
    exact ⟨rfl, rfl⟩

/-- One version without Ups and cells lies in a block, one branch in another. -/
def VerAt (W : World) (b : Nat) (id : Int) : Prop :=
  b < W.heap.size ∧ W.cell? ⟨b, 0, none⟩ = some (.int .i64 id) ∧ W.cell? ⟨b, 1, none⟩ = some (.slice none 0 0) ∧ W.cell? ⟨b, 2, none⟩ = some (.slice none 0 0) ∧
    W.frozen? ⟨b, 0, none⟩ = false ∧ W.frozen? ⟨b, 1, none⟩ = false ∧ W.frozen? ⟨b, 2, none⟩ = false
def BraAt (W : World) (b : Nat) (s : ByteArray) (h : Int) : Prop :=
  b < W.heap.size ∧ W.cell? ⟨b, 0, none⟩ = some (.string s) ∧ W.cell? ⟨b, 1, none⟩ = some (.int .i64 h) ∧
    W.frozen? ⟨b, 0, none⟩ = false ∧ W.frozen? ⟨b, 1, none⟩ = false
theorem VerAt.below {W W' : World} {b : Nat} {id : Int} {B : Nat} (h : VerAt W b id) (hb : Below B W W') (hB : b < B) : VerAt W' b id := by
  obtain ⟨hl, c0, c1, c2, f0, f1, f2⟩ := h
  exact ⟨Nat.lt_of_lt_of_le hl hb.size, (hb.cell (p := ⟨b, _, none⟩) hB).trans c0, (hb.cell (p := ⟨b, _, none⟩) hB).trans c1, (hb.cell (p := ⟨b, _, none⟩) hB).trans c2, (hb.frozen (p := ⟨b, _, none⟩) hB).trans f0, (hb.frozen (p := ⟨b, _, none⟩) hB).trans f1, (hb.frozen (p := ⟨b, _, none⟩) hB).trans f2⟩
theorem BraAt.below {W W' : World} {b : Nat} {s : ByteArray} {id : Int} {B : Nat} (h : BraAt W b s id) (hb : Below B W W') (hB : b < B) : BraAt W' b s id := by
  obtain ⟨hl, c0, c1, f0, f1⟩ := h
  exact ⟨Nat.lt_of_lt_of_le hl hb.size, (hb.cell (p := ⟨b, _, none⟩) hB).trans c0, (hb.cell (p := ⟨b, _, none⟩) hB).trans c1, (hb.frozen (p := ⟨b, _, none⟩) hB).trans f0, (hb.frozen (p := ⟨b, _, none⟩) hB).trans f1⟩

set_option maxHeartbeats 4000000 in
theorem laws_eqVersion_one (i : Int) (w : World) : Calls Try.prog 15 #[.agg #[.int .i64 i, .slice none 0 0, .slice none 0 0], .agg #[.int .i64 i, .slice none 0 0, .slice none 0 0]] w fun e w' => e = .returned (.bool true) ∧ Below w.heap.size w w' := by
  go_enter Try.func15, Try.ntmps15
  go_wp2_with (first | (go_at_call 22; refine (laws_eqInt64S_nil _).mono ?_; rintro e w' ⟨rfl, rfl⟩) | (go_at_call 23; refine (laws_eqCellS_nil _).mono ?_; rintro e w' ⟨rfl, rfl⟩))
  go_ret
  exact ⟨rfl, by go_grown⟩
set_option maxHeartbeats 4000000 in
theorem laws_eqBranch_one (s : ByteArray) (i : Int) (w : World) : Calls Try.prog 16 #[.agg #[.string s, .int .i64 i], .agg #[.string s, .int .i64 i]] w fun e w' => e = .returned (.bool true) ∧ Below w.heap.size w w' := by
  go_enter Try.func16, Try.ntmps16
  go_wp2_with fail
  go_ret
  exact ⟨rfl, by go_grown⟩
set_option maxHeartbeats 4000000 in
theorem laws_eqVersionS_one (i : Int) (b c : Nat) (w : World) (hb : VerAt w b i) (hc : VerAt w c i) : Calls Try.prog 9 #[.slice (some ⟨b, 0, none⟩) 1 1, .slice (some ⟨c, 0, none⟩) 1 1] w fun e w' => e = .returned (.bool true) ∧ Below w.heap.size w w' := by
  obtain ⟨hl, b0, b1, b2, _, _, _⟩ := hb
  obtain ⟨hm, c0, c1, c2, _, _, _⟩ := hc
  go_enter Try.func9, Try.ntmps9
  go_wp2_with fail
  go_loopw [5] (fun i wr => ∃ k : Nat, k ≤ 1 ∧ i = .int .i64 k ∧ Below w.heap.size w wr) (fun i _ => 1 - (intOf i).toNat)
  case atStart => exact ⟨0, Nat.zero_le _, rfl, Below.refl _ _⟩
  case round =>
    obtain ⟨k, hk, rfl, hbel⟩ := hrel
    by_cases hlt : k < 1
    · obtain rfl : k = 0 := by omega
      have hs := hbel.size
      have hW := fun b o h => hbel.cell (p := ⟨b, o, none⟩) h
      go_wp2_with fail
      go_region_held3 (fun w' => (∀ bq oq, bq < w.heap.size → w'.cell? ⟨bq, oq, none⟩ = w.cell? ⟨bq, oq, none⟩) ∧ w.heap.size ≤ w'.heap.size ∧ Below w.heap.size w w')
        (exact sc_of (Nat.le_refl _) (by go_grown))
        (first
        | (go_at_call 15; refine (laws_eqVersion_one i _).mono ?_; rintro e w1 ⟨rfl, hb⟩; obtain ⟨hk1, hz1⟩ := bframe (B := w.heap.size) (X := w) (by go_grown) (by go_size) hb; clear hb))
      all_goals go_wp2_with fail
      all_goals
        go_roundw
        case rel => exact ⟨1, by omega, by go_num, by go_grown⟩
        case measure => simp [intOf]
    · obtain rfl : k = 1 := by omega
      go_wp2_with fail
      go_ret
      exact ⟨rfl, hbel⟩
set_option maxHeartbeats 4000000 in
theorem laws_eqBranchS_one (s : ByteArray) (i : Int) (b c : Nat) (w : World) (hb : BraAt w b s i) (hc : BraAt w c s i) : Calls Try.prog 10 #[.slice (some ⟨b, 0, none⟩) 1 1, .slice (some ⟨c, 0, none⟩) 1 1] w fun e w' => e = .returned (.bool true) ∧ Below w.heap.size w w' := by
  obtain ⟨hl, b0, b1, _, _⟩ := hb
  obtain ⟨hm, c0, c1, _, _⟩ := hc
  go_enter Try.func10, Try.ntmps10
  go_wp2_with fail
  go_loopw [5] (fun i wr => ∃ k : Nat, k ≤ 1 ∧ i = .int .i64 k ∧ Below w.heap.size w wr) (fun i _ => 1 - (intOf i).toNat)
  case atStart => exact ⟨0, Nat.zero_le _, rfl, Below.refl _ _⟩
  case round =>
    obtain ⟨k, hk, rfl, hbel⟩ := hrel
    by_cases hlt : k < 1
    · obtain rfl : k = 0 := by omega
      have hs := hbel.size
      have hW := fun b o h => hbel.cell (p := ⟨b, o, none⟩) h
      go_wp2_with fail
      go_region_held3 (fun w' => (∀ bq oq, bq < w.heap.size → w'.cell? ⟨bq, oq, none⟩ = w.cell? ⟨bq, oq, none⟩) ∧ w.heap.size ≤ w'.heap.size ∧ Below w.heap.size w w')
        (exact sc_of (Nat.le_refl _) (by go_grown))
        (first
        | (go_at_call 16; refine (laws_eqBranch_one s i _).mono ?_; rintro e w1 ⟨rfl, hb⟩; obtain ⟨hk1, hz1⟩ := bframe (B := w.heap.size) (X := w) (by go_grown) (by go_size) hb; clear hb))
      all_goals go_wp2_with fail
      all_goals
        go_roundw
        case rel => exact ⟨1, by omega, by go_num, by go_grown⟩
        case measure => simp [intOf]
    · obtain rfl : k = 1 := by omega
      go_wp2_with fail
      go_ret
      exact ⟨rfl, hbel⟩

/-- A Dag of one version and one branch. -/
def dagV (n : Int) (v b : Nat) : Value := .agg #[.int .i64 n, .slice (some ⟨v, 0, none⟩) 1 1, .slice (some ⟨b, 0, none⟩) 1 1]
set_option maxHeartbeats 4000000 in
theorem laws_eqDag_one (n i h : Int) (s : ByteArray) (v b v' b' : Nat) (w : World) (hv : VerAt w v i) (hb : BraAt w b s h) (hv' : VerAt w v' i) (hb' : BraAt w b' s h) :
    Calls Try.prog 6 #[.agg #[.int .i64 n, .slice (some ⟨v, 0, none⟩) 1 1, .slice (some ⟨b, 0, none⟩) 1 1], .agg #[.int .i64 n, .slice (some ⟨v', 0, none⟩) 1 1, .slice (some ⟨b', 0, none⟩) 1 1]] w fun e w' => e = .returned (.bool true) ∧ Below w.heap.size w w' := by
  have H1 : Hid (VerAt w v i ∧ VerAt w v' i) := ⟨hv, hv'⟩
  have H2 : Hid (BraAt w b s h ∧ BraAt w b' s h) := ⟨hb, hb'⟩
  clear hv hb hv' hb'
  go_enter Try.func6, Try.ntmps6
  go_wp2_with (first
    | (go_at_call 9; refine (laws_eqVersionS_one i _ _ _ (H1.out.1.below (B := w.heap.size) (by go_grown) H1.out.1.1) (H1.out.2.below (B := w.heap.size) (by go_grown) H1.out.2.1)).mono ?_; rintro e w1 ⟨rfl, hb1⟩; obtain ⟨kc, kf, kc', kf', kz, kb, kl⟩ := bk2 (w := w) (by go_grown) (by simp) hb1; clear hb1)
    | (go_at_call 10; refine (laws_eqBranchS_one s h _ _ _ (H2.out.1.below (B := w.heap.size) (by go_grown) H2.out.1.1) (H2.out.2.below (B := w.heap.size) (by go_grown) H2.out.2.1)).mono ?_; rintro e w2 ⟨rfl, hb2⟩; have kb2 := bchain (w := w) (by go_grown) hb2; clear hb2))
  go_ret
  exact ⟨rfl, by go_grown⟩

set_option maxHeartbeats 4000000 in
theorem laws_markVersionS_one (i : Int) (b : Nat) (w : World) (hb : VerAt w b i) : Calls Try.prog 11 #[.slice (some ⟨b, 0, none⟩) 1 1, .int .i64 1] w fun e w' => e = .returned (.int .i64 2) ∧ w' = w.setCell ⟨b, 0, none⟩ (.int .i64 1) := by
  obtain ⟨hl, b0, b1, b2, f0, f1, f2⟩ := hb
  go_enter Try.func11, Try.ntmps11
  go_wp2_with fail
  go_loopw [1, 5] (fun q i wr => (i = .int .i64 0 ∧ q = .int .i64 1 ∧ wr = w) ∨ (i = .int .i64 1 ∧ q = .int .i64 2 ∧ wr = w.setCell ⟨b, 0, none⟩ (.int .i64 1))) (fun _ i _ => 1 - (intOf i).toNat)
  case atStart => exact Or.inl ⟨rfl, rfl, rfl⟩
  case round =>
    rcases hrel with ⟨rfl, rfl, rfl⟩ | ⟨rfl, rfl, rfl⟩
    · go_wp2_with (first | (go_at_call 17; refine (laws_markInt64S_nil _ _).mono ?_; rintro e w' ⟨rfl, rfl⟩) | (go_at_call 18; refine (laws_markCellS_nil _ _).mono ?_; rintro e w' ⟨rfl, rfl⟩))
      go_roundw
      case rel => exact Or.inr ⟨by go_num, by go_num, by first | rfl | trivial⟩
      case measure => simp [intOf]
    · go_wp2_with fail
      go_ret
      exact ⟨rfl, rfl⟩
set_option maxHeartbeats 4000000 in
theorem laws_markBranchS_one (s : ByteArray) (i : Int) (b : Nat) (w : World) (hb : BraAt w b s i) : Calls Try.prog 12 #[.slice (some ⟨b, 0, none⟩) 1 1, .int .i64 2] w fun e w' => e = .returned (.int .i64 4) ∧
    ∃ w1, Below w.heap.size w w1 ∧ w' = (w1.setCell ⟨b, 0, none⟩ (.string (mtx 2))).setCell ⟨b, 1, none⟩ (.int .i64 3) := by
  obtain ⟨hl, b0, b1, f0, f1⟩ := hb
  go_enter Try.func12, Try.ntmps12
  go_wp2_with fail
  go_loopw [1, 5] (fun q i wr => (i = .int .i64 0 ∧ q = .int .i64 2 ∧ wr = w) ∨ (i = .int .i64 1 ∧ q = .int .i64 4 ∧ ∃ w1, Below w.heap.size w w1 ∧ wr = (w1.setCell ⟨b, 0, none⟩ (.string (mtx 2))).setCell ⟨b, 1, none⟩ (.int .i64 3))) (fun _ i _ => 1 - (intOf i).toNat)
  case atStart => exact Or.inl ⟨rfl, rfl, rfl⟩
  case round =>
    rcases hrel with ⟨rfl, rfl, rfl⟩ | ⟨rfl, rfl, w1, hb1, rfl⟩
    · go_wp2_with (go_at_call 19; refine (laws_markTextV _ _ (by omega) (by omega)).mono ?_; rintro e w2 ⟨rfl, hb⟩; obtain ⟨hkc, hkf, hks, hkl⟩ := kp hb)
      go_roundw
      case rel => exact Or.inr ⟨by go_num, by go_num, w2, hb, rfl⟩
      case measure => simp [intOf]
    · go_wp2_with fail
      go_ret
      exact ⟨rfl, w1, hb1, rfl⟩
set_option maxHeartbeats 4000000 in
theorem laws_heldVersionS_one (b : Nat) (w : World) (hb : VerAt w b 1) : Calls Try.prog 13 #[.slice (some ⟨b, 0, none⟩) 1 1, .int .i64 1] w fun e w' => e = .returned (.int .i64 2) ∧ w' = w := by
  obtain ⟨hl, b0, b1, b2, f0, f1, f2⟩ := hb
  go_enter Try.func13, Try.ntmps13
  go_wp2_with fail
  go_loop [1, 5] (fun q i => (i = .int .i64 0 ∧ q = .int .i64 1) ∨ (i = .int .i64 1 ∧ q = .int .i64 2)) (fun _ i => 1 - (intOf i).toNat)
  case atStart => exact Or.inl ⟨rfl, rfl⟩
  case round =>
    rcases hrel with ⟨rfl, rfl⟩ | ⟨rfl, rfl⟩
    · go_wp2_with (first | (go_at_call 20; refine (laws_heldInt64S_nil _ _).mono ?_; rintro e w' ⟨rfl, rfl⟩) | (go_at_call 21; refine (laws_heldCellS_nil _ _).mono ?_; rintro e w' ⟨rfl, rfl⟩))
      go_round
      case rel => exact Or.inr ⟨by go_num, by go_num⟩
      case measure => simp [intOf]
    · go_wp2_with fail
      go_ret
      exact ⟨rfl, rfl⟩
set_option maxHeartbeats 4000000 in
theorem laws_heldBranchS_one (b : Nat) (w : World) (hb : BraAt w b (mtx 2) 3) : Calls Try.prog 14 #[.slice (some ⟨b, 0, none⟩) 1 1, .int .i64 2] w fun e w' => e = .returned (.int .i64 4) ∧ Below w.heap.size w w' := by
  obtain ⟨hl, b0, b1, f0, f1⟩ := hb
  go_enter Try.func14, Try.ntmps14
  go_wp2_with fail
  go_loopw [1, 5] (fun q i wr => (i = .int .i64 0 ∧ q = .int .i64 2 ∧ wr = w) ∨ (i = .int .i64 1 ∧ q = .int .i64 4 ∧ Below w.heap.size w wr)) (fun _ i _ => 1 - (intOf i).toNat)
  case atStart => exact Or.inl ⟨rfl, rfl, rfl⟩
  case round =>
    rcases hrel with ⟨rfl, rfl, rfl⟩ | ⟨rfl, rfl, hb1⟩
    · go_wp2_with fail
      go_region_held3 (fun w' => (∀ bq oq, bq < wr.heap.size → w'.cell? ⟨bq, oq, none⟩ = wr.cell? ⟨bq, oq, none⟩) ∧ wr.heap.size ≤ w'.heap.size ∧ Below wr.heap.size wr w')
        (exact sc_of (Nat.le_refl _) (by go_grown))
        (first
        | (go_at_call 19; refine (laws_markTextV _ _ (by omega) (by omega)).mono ?_; rintro e w1 ⟨rfl, hb⟩; obtain ⟨hk1, hz1⟩ := bframe (B := wr.heap.size) (X := wr) (by go_grown) (by go_size) hb; have hW1 : ∀ b o, b < wr.heap.size → w1.cell? ⟨b, o, none⟩ = wr.cell? ⟨b, o, none⟩ := (fun b o h => hk1.cell (p := ⟨b, o, none⟩) h); clear hb))
      all_goals go_wp2_with fail
      all_goals
        go_roundw
        case rel => exact Or.inr ⟨by go_num, by go_num, by go_grown⟩
        case measure => simp [intOf]
    · go_wp2_with fail
      go_ret
      exact ⟨rfl, hb1⟩

/-- All but two blocks stands as it did. -/
def OffTwo (w w' : World) (v b : Nat) : Prop :=
  (∀ g o, g < w.heap.size → g ≠ v → g ≠ b → w'.cell? ⟨g, o, none⟩ = w.cell? ⟨g, o, none⟩) ∧ w.heap.size ≤ w'.heap.size ∧ ∀ B, B ≤ v → B ≤ b → B ≤ w.heap.size → Below B w w'
theorem VerAt.off {W : World} {b v o : Nat} {i : Int} {u : Value} (h : VerAt W b i) (hn : v ≠ b) : VerAt (W.setCell ⟨v, o, none⟩ u) b i := by
  obtain ⟨hl, c0, c1, c2, f0, f1, f2⟩ := h
  exact ⟨by simpa using hl, (World.cell?_setCell_far _ _ _ _ hn).trans c0, (World.cell?_setCell_far _ _ _ _ hn).trans c1, (World.cell?_setCell_far _ _ _ _ hn).trans c2,
    (World.frozen?_setCell _ _ _ _).trans f0, (World.frozen?_setCell _ _ _ _).trans f1, (World.frozen?_setCell _ _ _ _).trans f2⟩
theorem BraAt.off {W : World} {b v o : Nat} {s : ByteArray} {i : Int} {u : Value} (h : BraAt W b s i) (hn : v ≠ b) : BraAt (W.setCell ⟨v, o, none⟩ u) b s i := by
  obtain ⟨hl, c0, c1, f0, f1⟩ := h
  exact ⟨by simpa using hl, (World.cell?_setCell_far _ _ _ _ hn).trans c0, (World.cell?_setCell_far _ _ _ _ hn).trans c1,
    (World.frozen?_setCell _ _ _ _).trans f0, (World.frozen?_setCell _ _ _ _).trans f1⟩
theorem VerAt.set {W : World} {b : Nat} {i k : Int} (h : VerAt W b i) : VerAt (W.setCell ⟨b, 0, none⟩ (.int .i64 k)) b k := by
  obtain ⟨hl, c0, c1, c2, f0, f1, f2⟩ := h
  refine ⟨by simpa using hl, World.cell?_setCell_same _ _ _ c0, ?_, ?_, (World.frozen?_setCell _ _ _ _).trans f0, (World.frozen?_setCell _ _ _ _).trans f1, (World.frozen?_setCell _ _ _ _).trans f2⟩
  · exact (World.cell?_setCell_other W ⟨b, 0, none⟩ ⟨b, 1, none⟩ _ (by intro e; cases e)).trans c1
  · exact (World.cell?_setCell_other W ⟨b, 0, none⟩ ⟨b, 2, none⟩ _ (by intro e; cases e)).trans c2
theorem BraAt.set {W : World} {b : Nat} {s t : ByteArray} {i k : Int} (h : BraAt W b s i) : BraAt ((W.setCell ⟨b, 0, none⟩ (.string t)).setCell ⟨b, 1, none⟩ (.int .i64 k)) b t k := by
  obtain ⟨hl, c0, c1, f0, f1⟩ := h
  refine ⟨by simpa using hl, ?_, ?_, (World.frozen?_setCell _ _ _ _).trans ((World.frozen?_setCell _ _ _ _).trans f0), (World.frozen?_setCell _ _ _ _).trans ((World.frozen?_setCell _ _ _ _).trans f1)⟩
  · rw [World.cell?_setCell_other _ ⟨b, 1, none⟩ ⟨b, 0, none⟩ _ (by intro e; cases e)]; exact World.cell?_setCell_same _ _ _ c0
  · exact World.cell?_setCell_same _ ⟨b, 1, none⟩ _ ((World.cell?_setCell_other W ⟨b, 0, none⟩ ⟨b, 1, none⟩ _ (by intro e; cases e)).trans c1)

set_option maxHeartbeats 8000000 in
theorem laws_markDag_one (n i h : Int) (s : ByteArray) (v b : Nat) (w : World) (hvb : v ≠ b) (hv : VerAt w v i) (hb : BraAt w b s h) :
    Calls Try.prog 7 #[.agg #[.int .i64 n, .slice (some ⟨v, 0, none⟩) 1 1, .slice (some ⟨b, 0, none⟩) 1 1], .int .i64 1] w fun e w' => e = .returned (.int .i64 4) ∧ VerAt w' v 1 ∧ BraAt w' b (mtx 2) 3 ∧ OffTwo w w' v b := by
  have H1 : Hid (VerAt w v i) := hv
  have H2 : Hid (BraAt w b s h) := hb
  have H3 : Hid (v ≠ b) := hvb
  have H4 : v < w.heap.size := hv.1
  clear hv hb hvb
  go_enter Try.func7, Try.ntmps7
  go_wp2_with fail
  have HW : Hid (Below w.heap.size w (w.alloc (.cells #[.int .i64 n, .slice (some ⟨v, 0, none⟩) 1 1, .slice (some ⟨b, 0, none⟩) 1 1] 25))) := by show Below _ _ _; go_grown
  have hcz : (w.alloc (.cells #[.int .i64 n, .slice (some ⟨v, 0, none⟩) 1 1, .slice (some ⟨b, 0, none⟩) 1 1] 25)).cell? ⟨w.heap.size, 2, none⟩ = some (.slice (some ⟨b, 0, none⟩) 1 1) := by simp
  generalize (w.alloc (.cells #[.int .i64 n, .slice (some ⟨v, 0, none⟩) 1 1, .slice (some ⟨b, 0, none⟩) 1 1] 25)) = w0 at *
  refine (laws_markVersionS_one i _ _ (H1.out.below HW.out H4)).mono ?_
  rintro e w1 ⟨rfl, rfl⟩
  have hcz2 : (w0.setCell ⟨v, 0, none⟩ (.int .i64 1)).cell? ⟨w.heap.size, 2, none⟩ = some (.slice (some ⟨b, 0, none⟩) 1 1) := (World.cell?_setCell_far _ _ _ _ (by simp; omega)).trans hcz
  have HB : Hid (BraAt (w0.setCell ⟨v, 0, none⟩ (.int .i64 1)) b s h) := (H2.out.below HW.out H2.out.1).off H3.out
  have HV : Hid (VerAt (w0.setCell ⟨v, 0, none⟩ (.int .i64 1)) v 1) := (H1.out.below HW.out H4).set
  have HO : Hid (OffTwo w (w0.setCell ⟨v, 0, none⟩ (.int .i64 1)) v b) := by
    refine ⟨fun g o hg hgv hgb => ?_, by simpa using HW.out.size, fun B h1 h2 h3 => (HW.out.mono h3).setCell h1 _⟩
    exact (World.cell?_setCell_far _ _ _ _ (fun e => hgv e.symm)).trans (HW.out.cell (p := ⟨g, o, none⟩) hg)
  clear hcz
  generalize (w0.setCell ⟨v, 0, none⟩ (.int .i64 1)) = w3 at *
  go_wp2_with fail
  refine (laws_markBranchS_one s h _ _ HB.out).mono ?_
  rintro e w2 ⟨rfl, w1, hb1, rfl⟩
  have HB1 : Hid (Below w3.heap.size w3 w1) := hb1
  clear hb1
  go_wp2_with fail
  go_ret
  refine ⟨rfl, ((HV.out.below HB1.out HV.out.1).off (fun e => H3.out e.symm)).off (fun e => H3.out e.symm), (HB.out.below HB1.out HB.out.1).set, ?_, ?_, ?_⟩
  · intro g o hg hgv hgb
    have hg3 : g < w3.heap.size := Nat.lt_of_lt_of_le hg HO.out.2.1
    exact ((World.cell?_setCell_far _ _ _ _ (fun e => hgb e.symm)).trans ((World.cell?_setCell_far _ _ _ _ (fun e => hgb e.symm)).trans (HB1.out.cell (p := ⟨g, o, none⟩) hg3))).trans (HO.out.1 g o hg hgv hgb)
  · have := HO.out.2.1; have h2 := HB1.out.size; simp; omega
  · intro B h1 h2 h3
    have hz := HO.out.2.1
    exact ((((HO.out.2.2 B h1 h2 h3).trans (HB1.out.mono (Nat.le_trans h3 hz))).setCell h2 _).setCell h2 _)

set_option maxHeartbeats 8000000 in
theorem laws_heldDag_one (n : Int) (v b : Nat) (w : World) (hv : VerAt w v 1) (hb : BraAt w b (mtx 2) 3) :
    Calls Try.prog 8 #[.agg #[.int .i64 n, .slice (some ⟨v, 0, none⟩) 1 1, .slice (some ⟨b, 0, none⟩) 1 1], .int .i64 1] w fun e w' => e = .returned (.int .i64 4) ∧ Below w.heap.size w w' := by
  have H1 : Hid (VerAt w v 1) := hv
  have H2 : Hid (BraAt w b (mtx 2) 3) := hb
  clear hv hb
  go_enter Try.func8, Try.ntmps8
  go_wp2_with (first
    | (go_at_call 13; refine (laws_heldVersionS_one _ _ (H1.out.below (B := w.heap.size) (by go_grown) H1.out.1)).mono ?_; rintro e w1 ⟨rfl, rfl⟩)
    | (go_at_call 14; refine (laws_heldBranchS_one _ _ (H2.out.below (B := w.heap.size) (by go_grown) H2.out.1)).mono ?_; rintro e w2 ⟨rfl, hb2⟩; have kb2 := bchain (w := w) (by go_grown) hb2; clear hb2))
  go_ret
  exact ⟨rfl, by go_grown⟩

def mainB : ByteArray := ⟨#[109, 97, 105, 110]⟩
set_option maxHeartbeats 8000000 in
theorem impl_DagNew (w : World) : Calls Try.prog 5 #[] w fun e w' => ∃ v b, e = .returned (.agg #[.int .i64 2, .slice (some ⟨v, 0, none⟩) 1 1, .slice (some ⟨b, 0, none⟩) 1 1]) ∧ w.heap.size ≤ v ∧ w.heap.size ≤ b ∧ v ≠ b ∧ VerAt w' v 1 ∧ BraAt w' b mainB 1 ∧ Below w.heap.size w w' := by
  go_enter Try.func5, Try.ntmps5
  go_wp2_with fail
  refine bodyPost_ret (v := .agg #[.int .i64 2, .slice (some ⟨w.heap.size + 1, 0, none⟩) 1 1, .slice (some ⟨w.heap.size + 1 + 1, 0, none⟩) 1 1]) ?_ rfl ⟨w.heap.size + 1, w.heap.size + 1 + 1, rfl, by omega, by omega, by omega, ?_, ?_, ?_⟩
  · simp [results, Try.results5, go_sem]
  · refine ⟨by simp, ?_, ?_, ?_, ?_, ?_, ?_⟩ <;> simp [go_sem]
  · refine ⟨by simp, ?_, ?_, ?_, ?_⟩ <;> simp [go_sem, mainB]
  · go_grown
set_option maxHeartbeats 8000000 in
theorem spec_DagNew (w : World) : Calls Try.prog 4 #[] w fun e w' => ∃ v b, e = .returned (.agg #[.int .i64 2, .slice (some ⟨v, 0, none⟩) 1 1, .slice (some ⟨b, 0, none⟩) 1 1]) ∧ w.heap.size ≤ v ∧ w.heap.size ≤ b ∧ v ≠ b ∧ VerAt w' v 1 ∧ BraAt w' b mainB 1 ∧ Below w.heap.size w w' := by
  go_enter Try.func4, Try.ntmps4
  go_wp2_with fail
  refine bodyPost_ret (v := .agg #[.int .i64 2, .slice (some ⟨w.heap.size + 1, 0, none⟩) 1 1, .slice (some ⟨w.heap.size + 1 + 1, 0, none⟩) 1 1]) ?_ rfl ⟨w.heap.size + 1, w.heap.size + 1 + 1, rfl, by omega, by omega, by omega, ?_, ?_, ?_⟩
  · simp [results, Try.results4, go_sem]
  · refine ⟨by simp, ?_, ?_, ?_, ?_, ?_, ?_⟩ <;> simp [go_sem]
  · refine ⟨by simp, ?_, ?_, ?_, ?_⟩ <;> simp [go_sem, mainB]
  · go_grown
end Go.Proofs.Ytnjladjkndblfaa
