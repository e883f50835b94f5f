import Derived.Test.YthagnaeemipnlaaCvH
import Derived.Test.YthagnaeemipnlaaCvD
namespace Go.Proofs.Ythagnaeemipnlaa
open Go.RowKit

set_option maxHeartbeats 8000000 in
theorem law_FnExactLookup (A : Option Addr) (n cap : Nat) (C R K V : Nat → Int) (S : Nat → ByteArray) (p q : Int) (w : World) (h : CvRow w A n C R K V S) : Calls Try.prog 6 #[.slice A n cap, .agg #[.int .i64 p, .int .i64 q]] w fun e w' =>
    e = .returned (.bool true) ∧ Below w.heap.size w w' := by
  have HR : Hid (CvRow w A n C R K V S) := h
  have HS : Hid (∀ i, i < n → (S i).size ≤ maxLen) := fun i hi => by obtain ⟨_, _, _, _, _, _, _, _, _, hs⟩ := h.2 i hi; exact hs
  clear h
  go_enter Try.func6, Try.ntmps6
  go_wp2_with fail
  refine (laws_szCellValueS _ (HR.out.below (by go_grown))).mono ?_
  rintro e wz ⟨z, rfl, hz, hb⟩
  obtain ⟨hk, hz1⟩ := bframe (B := w.heap.size + 1) (X := (w.alloc (.cells #[.int .i64 p, .int .i64 q] 42))) (by go_grown) (by go_size) hb
  clear hb
  by_cases hneg : z < 0
  · go_wp2_with fail
    go_ret
    exact ⟨rfl, bfin (n := 1) (X := (w.alloc (.cells #[.int .i64 p, .int .i64 q] 42))) (by go_grown) (by go_grown)⟩
  have hn : n ≤ 1048576 := hz (by omega)
  have HN : Hid (n ≤ 1048576) := hn
  clear hn hz
  have hc : ∀ b o, b < w.heap.size + 1 → wz.cell? ⟨b, o, none⟩ = (w.alloc (.cells #[.int .i64 p, .int .i64 q] 42)).cell? ⟨b, o, none⟩ := fun b o h => hk.cell (p := ⟨b, o, none⟩) h
  go_upto_region 5 with fail
  go_cut [6] (fun v5 wx => ∃ g, v5 = .pointer (some ⟨g, 0, none⟩) ∧ Below (w.heap.size + 1) (w.alloc (.cells #[.int .i64 p, .int .i64 q] 42)) wx ∧ w.heap.size + 1 ≤ g ∧ g < wx.heap.size ∧ w.heap.size + 1 ≤ wx.heap.size ∧ wx.cell? ⟨g, 0, none⟩ = some (.int .i64 (lkK C R K V S n p q)) ∧ wx.cell? ⟨g, 1, none⟩ = some (.int .i64 (lkN C R K V S n p q)) ∧ wx.cell? ⟨g, 2, none⟩ = some (.string (lkS C R K V S n p q)))
  case first =>
    go_region_held3 (fun w' => (∀ bq oq, bq < w.heap.size + 1 → w'.cell? ⟨bq, oq, none⟩ = (w.alloc (.cells #[.int .i64 p, .int .i64 q] 42)).cell? ⟨bq, oq, none⟩) ∧ w.heap.size + 1 ≤ w'.heap.size ∧ Below (w.heap.size + 1) (w.alloc (.cells #[.int .i64 p, .int .i64 q] 42)) w')
      (exact sc_of (by go_size) (by go_grown))
      (first
      | (go_at_call 16; refine (laws_toCellValueS (C := C) (R := R) (K := K) (V := V) (S := S) _ ?_ HN.out).mono ?_; (focus (exact HR.out.below (bfin (n := 1) (X := (w.alloc (.cells #[.int .i64 p, .int .i64 q] 42))) (by go_grown) (by go_grown)))); rintro e w1 ⟨v, rfl, ho, hb⟩; obtain ⟨A1, cap1, rfl, _, _⟩ := own_shape ho; have R1 : Hid (CvRow w1 A1 n C R K V S) := cv_of_own ho HS.out; clear ho; obtain ⟨hk, hz⟩ := bframe (B := w.heap.size + 1) (X := (w.alloc (.cells #[.int .i64 p, .int .i64 q] 42))) (by go_grown) (by go_size) hb; obtain ⟨hC, hF, hL, hE⟩ := kp hb; (try simp only [World.size_drew] at hC hF hL hE); (try (refine cutLt (x := wz.heap.size) ?_ hb.size (fun hq => ?_); (focus (go_size; done)))); clear hb)
      | (go_at_call 20; refine (laws_toRef _ _ _).mono ?_; rintro e w1 ⟨rfl, hb⟩; have HT := Hid.out (p := Hid (Below _ _ w1)) hb; obtain ⟨hk, hz⟩ := bframe (B := w.heap.size + 1) (X := (w.alloc (.cells #[.int .i64 p, .int .i64 q] 42))) (by go_grown) (by go_size) hb; obtain ⟨hC, hF, hL, hE⟩ := kp hb; (try simp only [World.size_drew] at hC hF hL hE); (try (refine cutLt (x := wz.heap.size) ?_ hb.size (fun hq => ?_); (focus (go_size; done)))); clear hb)
      | (go_at_call 19; refine (spec_Lookup (C := C) (R := R) (K := K) (V := V) (S := S) _ _ _ ?_).mono ?_; (focus (first | with_reducible exact R1.out | with_reducible exact R1.out.below ((Below.refl _ _).alloc (Nat.le_refl _) _) | with_reducible exact R1.out.below HT.out | with_reducible exact (R1.out.below HT.out).below ((Below.refl _ _).alloc (Nat.le_refl _) _) | with_reducible exact (R1.out.below ((Below.refl _ _).alloc (Nat.le_refl _) _)).below HT.out)); rintro e w1 ⟨rfl, hb⟩; obtain ⟨hk, hz⟩ := bframe (B := w.heap.size + 1) (X := (w.alloc (.cells #[.int .i64 p, .int .i64 q] 42))) (by go_grown) (by go_size) hb; obtain ⟨hC, hF, hL, hE⟩ := kp hb; (try simp only [World.size_drew] at hC hF hL hE); (try (refine cutLt (x := wz.heap.size) ?_ hb.size (fun hq => ?_); (focus (go_size; done)))); clear hb))
    all_goals
      go_wp2_with fail
      go_meet
      refine ⟨_, rfl, by go_grown, by go_size, ?_, by go_size, ?_, ?_, ?_⟩
      all_goals first | go_size | (simp (maxDischargeDepth := 9) [go_sem, *]; done)
  case rest =>
    clear hk hc
    obtain ⟨g, rfl, hB, hg1, hg2, hz0, g0, g1, g2⟩ := hcut
    have a0 : wc.cell? ⟨w.heap.size, 0, none⟩ = some (.int .i64 p) := (hB.cell (p := ⟨_, _, none⟩) (by simp)).trans (by simp)
    have a1 : wc.cell? ⟨w.heap.size, 1, none⟩ = some (.int .i64 q) := (hB.cell (p := ⟨_, _, none⟩) (by simp)).trans (by simp)
    have K1 : Hid (Below w.heap.size w wc) := bfin (n := 1) (X := (w.alloc (.cells #[.int .i64 p, .int .i64 q] 42))) (by go_grown) hB
    clear hB
    go_wp2_with fail
    refine (laws_toCellValueS _ (HR.out.below K1.out) HN.out).mono ?_
    rintro e u2 ⟨v, rfl, ho, hb⟩
    obtain ⟨A1, cap1, rfl, _, _⟩ := own_shape ho
    have R1 : Hid (CvRow u2 A1 n C R K V S) := cv_of_own ho HS.out
    have K2 : Hid (Below w.heap.size w u2) := bchain K1.out hb
    have a0 := cy hb a0
    have a1 := cy hb a1
    have g0 := cy hb g0
    have g1 := cy hb g1
    have g2 := cy hb g2
    clear hb ho
    go_wp2_with fail
    refine (laws_toRef _ _ _).mono ?_
    rintro e u3 ⟨rfl, hb⟩
    have R2 : Hid (CvRow u3 A1 n C R K V S) := R1.out.below hb
    have K3 : Hid (Below w.heap.size w u3) := bchain K2.out hb
    have g0 := cy hb g0
    have g1 := cy hb g1
    have g2 := cy hb g2
    clear hb R1
    go_wp2_with fail
    refine (impl_Lookup p q _ R2.out).mono ?_
    rintro e u4 ⟨rfl, hb⟩
    have R3 : Hid (CvRow u4 A1 n C R K V S) := R2.out.below hb
    have K4 : Hid (Below w.heap.size w u4) := bchain K3.out hb
    have g0 := cy hb g0
    have g1 := cy hb g1
    have g2 := cy hb g2
    have hg4 : g < u4.heap.size := World.block_lt_of_cell? u4 ⟨g, 0, none⟩ g0
    clear hb R2
    go_wp2_with fail
    refine (laws_eqValue_same _ _ _ _).mono ?_
    rintro e u5 ⟨rfl, hb⟩
    have R4 : Hid (CvRow u5 A1 n C R K V S) := (R3.out.below ((Below.refl _ _).alloc (Nat.le_refl _) _)).below hb
    have K5 : Hid (Below w.heap.size w u5) := bchain (K4.out.alloc K4.out.size _) hb
    clear hb R3
    go_wp2_with fail
    refine (laws_toCellValueS _ (HR.out.below K5.out) HN.out).mono ?_
    rintro e u6 ⟨v, rfl, ho, hb⟩
    obtain ⟨A3, cap3, rfl, _, _⟩ := own_shape ho
    have R5 : Hid (CvRow u6 A3 n C R K V S) := cv_of_own ho HS.out
    have R6 : Hid (CvRow u6 A1 n C R K V S) := R4.out.below hb
    have K6 : Hid (Below w.heap.size w u6) := bchain K5.out hb
    clear hb ho R4
    go_wp2_with fail
    refine (laws_eqCellValueS _ R6.out R5.out).mono ?_
    rintro e u7 ⟨rfl, hb⟩
    have K7 : Hid (Below w.heap.size w u7) := bchain K6.out hb
    clear hb
    go_wp2_with fail
    go_ret
    exact ⟨rfl, K7.out⟩
end Go.Proofs.Ythagnaeemipnlaa
