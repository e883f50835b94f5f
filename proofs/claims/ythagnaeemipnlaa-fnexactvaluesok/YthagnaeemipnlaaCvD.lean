import Derived.Test.YthagnaeemipnlaaCvC
namespace Go.Proofs.Ythagnaeemipnlaa
open Go.RowKit

set_option maxHeartbeats 2000000 in
theorem laws_szCellValueS {A : Option Addr} {n cap : Nat} {C R K V : Nat → Int} {S : Nat → ByteArray} (w : World) (h : CvRow w A n C R K V S) :
    Calls Try.prog 14 #[.slice A n cap, .int .i64 1048576] w fun e w' => ∃ z : Int, e = .returned (.int .i64 z) ∧ (0 ≤ z → n ≤ 1048576) ∧ Below w.heap.size w w' := by
  have HR : Hid (CvRow w A n C R K V S) := h
  have hm := h.1
  clear h
  unfold maxLen at hm
  by_cases hbig : (1048576 : Int) - (n : Int) < 0
  · go_enter Try.func14, Try.ntmps14
    go_wp2_with fail
    go_ret
    exact ⟨-1, rfl, fun h => by omega, by go_grown⟩
  · go_enter Try.func14, Try.ntmps14
    go_wp2_with fail
    go_loopw [1, 5] (fun l i wr => ∃ (t : Nat) (z : Int), t ≤ n ∧ i = .int .i64 t ∧ l = .int .i64 z ∧ 0 ≤ z ∧ z ≤ 1048576 ∧ Below w.heap.size w wr) (fun _ i _ => n - (intOf i).toNat)
    case atStart => exact ⟨0, _, Nat.zero_le _, rfl, rfl, by omega, by omega, Below.refl _ _⟩
    case round =>
      obtain ⟨t, z, ht, rfl, rfl, z0, z1, hbel⟩ := hrel
      by_cases hlt : t < n
      · obtain ⟨b, o, rfl, hl, c0, c1, c2, c3, c4, hs⟩ := HR.out.2 t hlt
        rw [← hbel.cell (p := ⟨_, _, none⟩) hl] at c0 c1 c2 c3 c4
        have q0 : (0 : Int) ≤ (t : Int) := by omega
        have q1 : (t : Int) < (n : Int) := by omega
        have HB : Hid (Below w.heap.size w wr) := hbel
        clear hbel
        go_wp2_with fail
        refine (laws_szCellValue _ _ _ _ _ _ _ hs z0 z1).mono ?_
        rintro e w2 ⟨rfl, hb⟩
        have HB2 : Hid (Below w.heap.size w w2) := bchain HB.out hb
        clear hb c0 c1 c2 c3 c4
        have HZ : Hid (szv z (S t).size ≤ 1048576) := by show _ ≤ _; unfold szv; split <;> omega
        by_cases hz : szv z (S t).size < 0
        · go_wp2_with fail
          go_ret
          exact ⟨_, rfl, fun h => by omega, HB2.out⟩
        · go_wp2_with fail
          go_roundw
          case rel => exact ⟨t + 1, _, by omega, by go_num, rfl, by omega, HZ.out, HB2.out⟩
          case measure => simp [intOf]; omega
      · have q1 : ¬ (t : Int) < (n : Int) := by omega
        go_wp2_with fail
        go_ret
        exact ⟨_, rfl, fun h => by omega, hbel⟩

set_option maxHeartbeats 2000000 in
theorem laws_eqCellValueS {A A' : Option Addr} {n cap cap' : Nat} {C R K V : Nat → Int} {S : Nat → ByteArray} (w : World) (h : CvRow w A n C R K V S) (h' : CvRow w A' n C R K V S) :
    Calls Try.prog 18 #[.slice A n cap, .slice A' n cap'] w fun e w' => e = .returned (.bool true) ∧ Below w.heap.size w w' := by
  have HR : Hid (CvRow w A n C R K V S) := h
  have HR' : Hid (CvRow w A' n C R K V S) := h'
  have hn := h.1
  unfold maxLen at hn
  clear h h'
  go_enter Try.func18, Try.ntmps18
  go_wp2_with fail
  go_loopw [5] (fun i wr => ∃ k : Nat, k ≤ n ∧ i = .int .i64 k ∧ Below w.heap.size w wr) (fun i _ => n - (intOf i).toNat)
  case atStart => exact ⟨0, Nat.zero_le _, rfl, Below.refl _ _⟩
  case round =>
    obtain ⟨k, hk, rfl, hbel⟩ := hrel
    by_cases hlt : k < n
    · obtain ⟨b, o, rfl, hl, c0, c1, c2, c3, c4, hs⟩ := HR.out.2 k hlt
      obtain ⟨b', o', rfl, hl', c0', c1', c2', c3', c4', _⟩ := HR'.out.2 k hlt
      have hs := hbel.size
      have hW := fun b o h => hbel.cell (p := ⟨b, o, none⟩) h
      have h0 : (0 : Int) ≤ (k : Int) := by omega
      have h1 : (k : Int) < (n : Int) := by omega
      go_wp2_with fail
      go_region_held3 (fun w' => (∀ bq oq, bq < w.heap.size → w'.cell? ⟨bq, oq, none⟩ = w.cell? ⟨bq, oq, none⟩) ∧ w.heap.size ≤ w'.heap.size ∧ Below w.heap.size w w')
        (exact sc_of (Nat.le_refl _) (by go_grown))
        (first
        | (go_at_call 44; refine (laws_eqCellValue (C k) (R k) (K k) (V k) (S k) _).mono ?_; rintro e w1 ⟨rfl, hb⟩; obtain ⟨hk1, hz1⟩ := bframe (B := w.heap.size) (X := w) (by go_grown) (by go_size) hb; clear hb))
      all_goals go_wp2_with fail
      all_goals
        go_roundw
        case rel => exact ⟨k + 1, by omega, by go_num, by go_grown⟩
        case measure => simp [intOf]; omega
    · have h1 : ¬ (k : Int) < (n : Int) := by omega
      go_wp2_with fail
      go_ret
      exact ⟨rfl, hbel⟩
end Go.Proofs.Ythagnaeemipnlaa
