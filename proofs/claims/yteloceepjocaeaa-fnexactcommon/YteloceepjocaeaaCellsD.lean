import Derived.Test.YteloceepjocaeaaCellsB
import Derived.Deep.RegionHeld3
import Derived.Deep.DeepCutAuto
namespace Go.Proofs.Yteloceepjocaeaa
open Go.RowKit

set_option maxHeartbeats 2000000 in
theorem law_FnExactCommon (a b c d a' b' c' d' : Int) (w : World) : Calls Try.prog 9 #[.agg #[.int .i64 a, .int .i64 b, .int .i64 c, .int .i64 d], .agg #[.int .i64 a', .int .i64 b', .int .i64 c', .int .i64 d']] w fun e w' =>
    e = .returned (.bool true) ∧ Below w.heap.size w w' := by
  go_enter Try.func9, Try.ntmps9
  go_upto_region 1 with fail
  go_cut [5, 6] (fun v5 v6 wx => ∃ g, v5 = .pointer (some ⟨g, 0, none⟩) ∧ v6 = .bool (comOk a b c d a' b' c' d') ∧ Below (w.heap.size + 2) ((w.alloc (.cells #[.int .i64 a, .int .i64 b, .int .i64 c, .int .i64 d] 46)).alloc (.cells #[.int .i64 a', .int .i64 b', .int .i64 c', .int .i64 d'] 46)) wx ∧ w.heap.size + 2 ≤ g ∧ g < wx.heap.size ∧ w.heap.size + 2 ≤ wx.heap.size ∧ wx.cell? ⟨g, 0, none⟩ = some (.int .i64 (sel (comOk a b c d a' b' c' d') (mx a a'))) ∧ wx.cell? ⟨g, 1, none⟩ = some (.int .i64 (sel (comOk a b c d a' b' c' d') (mx b b'))) ∧ wx.cell? ⟨g, 2, none⟩ = some (.int .i64 (sel (comOk a b c d a' b' c' d') (mn c c'))) ∧ wx.cell? ⟨g, 3, none⟩ = some (.int .i64 (sel (comOk a b c d a' b' c' d') (mn d d'))))
  case first =>
    go_region_held3 (fun w' => (∀ bq oq, bq < w.heap.size + 2 → w'.cell? ⟨bq, oq, none⟩ = ((w.alloc (.cells #[.int .i64 a, .int .i64 b, .int .i64 c, .int .i64 d] 46)).alloc (.cells #[.int .i64 a', .int .i64 b', .int .i64 c', .int .i64 d'] 46)).cell? ⟨bq, oq, none⟩) ∧ w.heap.size + 2 ≤ w'.heap.size ∧ Below (w.heap.size + 2) ((w.alloc (.cells #[.int .i64 a, .int .i64 b, .int .i64 c, .int .i64 d] 46)).alloc (.cells #[.int .i64 a', .int .i64 b', .int .i64 c', .int .i64 d'] 46)) w')
      (exact sc_of (by go_size) (by go_grown))
      (first
      | (go_at_call 27; refine (laws_toArea _ _ _ _ _).mono ?_; rintro e w1 ⟨rfl, hb⟩; obtain ⟨hk, hz⟩ := bframe (B := w.heap.size + 2) (X := ((w.alloc (.cells #[.int .i64 a, .int .i64 b, .int .i64 c, .int .i64 d] 46)).alloc (.cells #[.int .i64 a', .int .i64 b', .int .i64 c', .int .i64 d'] 46))) (by go_grown) (by go_size) hb; obtain ⟨hC, hF, hL, hE⟩ := kp hb; (try simp only [World.size_drew] at hC hF hL hE); (try (refine cutLt (x := w.heap.size + 1 + 1) ?_ hb.size (fun hq => ?_); (focus (go_size; done)))); clear hb)
      | (go_at_call 14; refine (spec_Common _ _ _ _ _ _ _ _ _).mono ?_; rintro e w1 ⟨rfl, hb⟩; simp only [comV]; obtain ⟨hk, hz⟩ := bframe (B := w.heap.size + 2) (X := ((w.alloc (.cells #[.int .i64 a, .int .i64 b, .int .i64 c, .int .i64 d] 46)).alloc (.cells #[.int .i64 a', .int .i64 b', .int .i64 c', .int .i64 d'] 46))) (by go_grown) (by go_size) hb; obtain ⟨hC, hF, hL, hE⟩ := kp hb; (try simp only [World.size_drew] at hC hF hL hE); (try (refine cutLt (x := w.heap.size + 1 + 1) ?_ hb.size (fun hq => ?_); (focus (go_size; done)))); clear hb))
    all_goals
      go_wp2_with fail
      go_meet
      refine ⟨_, rfl, rfl, by go_grown, by go_size, ?_, by go_size, ?_, ?_, ?_, ?_⟩
      all_goals first | go_size | (simp (maxDischargeDepth := 9) [go_sem, *]; done)
  case rest =>
    obtain ⟨g, rfl, rfl, hB, hg1, hg2, hz0, g0, g1, g2, g3⟩ := hcut
    go_upto_region 2 with fail
    go_cut [7, 8] (fun v5 v6 wx => ∃ h, v5 = .pointer (some ⟨h, 0, none⟩) ∧ v6 = .bool (comOk a b c d a' b' c' d') ∧ Below (w.heap.size + 2) ((w.alloc (.cells #[.int .i64 a, .int .i64 b, .int .i64 c, .int .i64 d] 46)).alloc (.cells #[.int .i64 a', .int .i64 b', .int .i64 c', .int .i64 d'] 46)) wx ∧ w.heap.size + 2 ≤ h ∧ g < wx.heap.size ∧ h < wx.heap.size ∧ w.heap.size + 2 ≤ wx.heap.size ∧ wx.cell? ⟨g, 0, none⟩ = some (.int .i64 (sel (comOk a b c d a' b' c' d') (mx a a'))) ∧ wx.cell? ⟨g, 1, none⟩ = some (.int .i64 (sel (comOk a b c d a' b' c' d') (mx b b'))) ∧ wx.cell? ⟨g, 2, none⟩ = some (.int .i64 (sel (comOk a b c d a' b' c' d') (mn c c'))) ∧ wx.cell? ⟨g, 3, none⟩ = some (.int .i64 (sel (comOk a b c d a' b' c' d') (mn d d'))) ∧ wx.cell? ⟨h, 0, none⟩ = some (.int .i64 (sel (comOk a b c d a' b' c' d') (mx a a'))) ∧ wx.cell? ⟨h, 1, none⟩ = some (.int .i64 (sel (comOk a b c d a' b' c' d') (mx b b'))) ∧ wx.cell? ⟨h, 2, none⟩ = some (.int .i64 (sel (comOk a b c d a' b' c' d') (mn c c'))) ∧ wx.cell? ⟨h, 3, none⟩ = some (.int .i64 (sel (comOk a b c d a' b' c' d') (mn d d'))))
    case first =>
      go_region_held3 (fun w' => (∀ bq oq, bq < w.heap.size + 2 → w'.cell? ⟨bq, oq, none⟩ = ((w.alloc (.cells #[.int .i64 a, .int .i64 b, .int .i64 c, .int .i64 d] 46)).alloc (.cells #[.int .i64 a', .int .i64 b', .int .i64 c', .int .i64 d'] 46)).cell? ⟨bq, oq, none⟩) ∧ w.heap.size + 2 ≤ w'.heap.size ∧ Below (w.heap.size + 2) ((w.alloc (.cells #[.int .i64 a, .int .i64 b, .int .i64 c, .int .i64 d] 46)).alloc (.cells #[.int .i64 a', .int .i64 b', .int .i64 c', .int .i64 d'] 46)) w')
        (exact sc_of (by go_size) (by go_grown))
        (first
        | (go_at_call 27; refine (laws_toArea _ _ _ _ _).mono ?_; rintro e w1 ⟨rfl, hb⟩; obtain ⟨hk, hz⟩ := bframe (B := w.heap.size + 2) (X := ((w.alloc (.cells #[.int .i64 a, .int .i64 b, .int .i64 c, .int .i64 d] 46)).alloc (.cells #[.int .i64 a', .int .i64 b', .int .i64 c', .int .i64 d'] 46))) (by go_grown) (by go_size) hb; obtain ⟨hC, hF, hL, hE⟩ := kp hb; (try simp only [World.size_drew] at hC hF hL hE); (try (refine cutLt (x := wc.heap.size) ?_ hb.size (fun hq => ?_); (focus (go_size; done)))); (try (refine cutLt (x := g) ?_ hb.size (fun hq => ?_); (focus (go_size; done)))); clear hb)
        | (go_at_call 13; refine (impl_Common _ _ _ _ _ _ _ _ _).mono ?_; rintro e w1 ⟨rfl, hb⟩; simp only [comV]; obtain ⟨hk, hz⟩ := bframe (B := w.heap.size + 2) (X := ((w.alloc (.cells #[.int .i64 a, .int .i64 b, .int .i64 c, .int .i64 d] 46)).alloc (.cells #[.int .i64 a', .int .i64 b', .int .i64 c', .int .i64 d'] 46))) (by go_grown) (by go_size) hb; obtain ⟨hC, hF, hL, hE⟩ := kp hb; (try simp only [World.size_drew] at hC hF hL hE); (try (refine cutLt (x := wc.heap.size) ?_ hb.size (fun hq => ?_); (focus (go_size; done)))); (try (refine cutLt (x := g) ?_ hb.size (fun hq => ?_); (focus (go_size; done)))); clear hb))
      all_goals
        go_wp2_with fail
        go_meet
        refine ⟨_, rfl, rfl, by go_grown, by go_size, ?_, ?_, by go_size, ?_, ?_, ?_, ?_, ?_, ?_, ?_, ?_⟩
        all_goals first | go_size | (simp (maxDischargeDepth := 9) [go_sem, *]; done)
    case rest =>
      obtain ⟨h, rfl, rfl, hB', hh1, hg3, hh2, hz1, c0, c1, c2, c3, d0, d1, d2, d3⟩ := hcut
      go_wp2_with (first
        | (go_at_call 31; refine (laws_eqArea _ _ _ _ _ _ _ _ _).mono ?_; rintro e w1 ⟨rfl, hb⟩; obtain ⟨hk, hz⟩ := bframe (B := w.heap.size + 2) (X := ((w.alloc (.cells #[.int .i64 a, .int .i64 b, .int .i64 c, .int .i64 d] 46)).alloc (.cells #[.int .i64 a', .int .i64 b', .int .i64 c', .int .i64 d'] 46))) (by go_grown) (by go_size) hb; clear hb))
      all_goals
        go_ret
        exact ⟨rfl, bfin (by go_grown) hk⟩
end Go.Proofs.Yteloceepjocaeaa
