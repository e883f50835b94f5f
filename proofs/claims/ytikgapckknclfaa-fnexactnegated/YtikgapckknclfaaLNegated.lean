import Derived.Test.YtikgapckknclfaaValsL
import Derived.Test.YtikgapckknclfaaValsK
import Derived.Deep.RegionHeld3
import Derived.Deep.DeepCutAuto
namespace Go.Proofs.Ytikgapckknclfaa
open Go.RowKit

set_option maxHeartbeats 4000000 in
theorem law_FnExactNegated (k n : Int) (s : ByteArray) (w : World) (_wk : (Lit.int .i64 k).wf = true) (_wn : (Lit.int .i64 n).wf = true) (hs : s.size ≤ maxLen) : Calls Try.prog 13 #[.agg #[.int .i64 k, .int .i64 n, .string s]] w fun e w' =>
    e = .returned (.bool true) ∧ Below w.heap.size w w' := by
  by_cases hn : (1048576 : Int) - (s.size : Int) < 0
  · have HZ : Hid (szv 1048576 s.size = -1) := by show szv _ _ = _; unfold szv; rw [if_pos hn]
    go_enter Try.func13, Try.ntmps13
    go_wp2_with (first
      | (go_at_call 36; refine (laws_szValue _ _ _ _ _ hs (by omega) (by omega)).mono ?_; rintro e w1 ⟨rfl, hb⟩; rw [HZ.out]; obtain ⟨hc, hf, hC, hF, hz, hk, l0⟩ := bk1 (w := w) (by go_grown) (by go_size) hb; clear hb))
    go_ret
    exact ⟨rfl, by go_grown⟩
  have HZ : Hid (szv 1048576 s.size = 1048576 - s.size) := by show szv _ _ = _; unfold szv; rw [if_neg hn]
  go_enter Try.func13, Try.ntmps13
  go_wp2_with fail
  refine (laws_szValue _ _ _ _ _ hs (by omega) (by omega)).mono ?_
  rintro e wz ⟨rfl, hb⟩
  rw [HZ.out]
  obtain ⟨hk, hz⟩ := bframe (B := w.heap.size + 1) (X := (w.alloc (.cells #[.int .i64 k, .int .i64 n, .string s] 36))) (by go_grown) (by go_size) hb
  obtain ⟨hc, _, _, _, _, _, l0⟩ := bk1 (w := w) (by go_grown) (by go_size) hb
  clear hb
  go_upto_region 5 with fail
  go_cut [4] (fun v5 wx => ∃ g, v5 = .pointer (some ⟨g, 0, none⟩) ∧ Below (w.heap.size + 1) (w.alloc (.cells #[.int .i64 k, .int .i64 n, .string s] 36)) wx ∧ w.heap.size + 1 ≤ g ∧ g < wx.heap.size ∧ w.heap.size + 1 ≤ wx.heap.size ∧ wx.cell? ⟨g, 0, none⟩ = some (.int .i64 (opK (numE k n s) (0 - numX k n s))) ∧ wx.cell? ⟨g, 1, none⟩ = some (.int .i64 (opN (numE k n s) (0 - numX k n s))) ∧ wx.cell? ⟨g, 2, none⟩ = some (.string (⟨#[]⟩)))
  case first =>
    go_wp2_with (first
      | (go_at_call 37; refine (laws_toValue _ _ _ _).mono ?_; rintro e w1 ⟨rfl, hb⟩; obtain ⟨hk, hz⟩ := bframe (B := w.heap.size + 1) (X := (w.alloc (.cells #[.int .i64 k, .int .i64 n, .string s] 36))) (by go_grown) (by go_size) hb; obtain ⟨hC, hF, hL, hE⟩ := kp hb; (try simp only [World.size_drew] at hC hF hL hE); (try (refine cutLt (x := w.heap.size) ?_ hb.size (fun hq => ?_); (focus (go_size; done)))); (try (refine cutLt (x := wz.heap.size) ?_ hb.size (fun hq => ?_); (focus (go_size; done)))); clear hb)
      | (go_at_call 28; refine (spec_Negated _ _ _ _ hs).mono ?_; rintro e w1 ⟨rfl, hb⟩; obtain ⟨hk, hz⟩ := bframe (B := w.heap.size + 1) (X := (w.alloc (.cells #[.int .i64 k, .int .i64 n, .string s] 36))) (by go_grown) (by go_size) hb; obtain ⟨hC, hF, hL, hE⟩ := kp hb; (try simp only [World.size_drew] at hC hF hL hE); (try (refine cutLt (x := w.heap.size) ?_ hb.size (fun hq => ?_); (focus (go_size; done)))); (try (refine cutLt (x := wz.heap.size) ?_ hb.size (fun hq => ?_); (focus (go_size; done)))); clear hb))
    all_goals
      go_wp2_with fail
      go_meet
      refine ⟨_, rfl, by go_grown, by go_size, ?_, by go_size, ?_, ?_, ?_⟩
      all_goals first | go_size | (simp (maxDischargeDepth := 9) [go_sem, *]; done)
  case rest =>
    obtain ⟨g, rfl, hB, hg1, hg2, hz0, g0, g1, g2⟩ := hcut
    have hcw := (sc_of (by go_size) hB).1
    have hlw : w.heap.size < wc.heap.size := by omega
    go_upto_region 6 with fail
    go_cut [5] (fun v5 wx => ∃ h, v5 = .pointer (some ⟨h, 0, none⟩) ∧ Below (w.heap.size + 1) (w.alloc (.cells #[.int .i64 k, .int .i64 n, .string s] 36)) wx ∧ w.heap.size + 1 ≤ h ∧ g < wx.heap.size ∧ h < wx.heap.size ∧ w.heap.size + 1 ≤ wx.heap.size ∧ wx.cell? ⟨g, 0, none⟩ = some (.int .i64 (opK (numE k n s) (0 - numX k n s))) ∧ wx.cell? ⟨g, 1, none⟩ = some (.int .i64 (opN (numE k n s) (0 - numX k n s))) ∧ wx.cell? ⟨g, 2, none⟩ = some (.string (⟨#[]⟩)) ∧ wx.cell? ⟨h, 0, none⟩ = some (.int .i64 (opK (numE k n s) (0 - numX k n s))) ∧ wx.cell? ⟨h, 1, none⟩ = some (.int .i64 (opN (numE k n s) (0 - numX k n s))) ∧ wx.cell? ⟨h, 2, none⟩ = some (.string (⟨#[]⟩)))
    case first =>
      go_wp2_with (first
        | (go_at_call 37; refine (laws_toValue _ _ _ _).mono ?_; rintro e w1 ⟨rfl, hb⟩; obtain ⟨hk, hz⟩ := bframe (B := w.heap.size + 1) (X := (w.alloc (.cells #[.int .i64 k, .int .i64 n, .string s] 36))) (by go_grown) (by go_size) hb; obtain ⟨hC, hF, hL, hE⟩ := kp hb; (try simp only [World.size_drew] at hC hF hL hE); (try (refine cutLt (x := w.heap.size) ?_ hb.size (fun hq => ?_); (focus (go_size; done)))); (try (refine cutLt (x := wc.heap.size) ?_ hb.size (fun hq => ?_); (focus (go_size; done)))); (try (refine cutLt (x := g) ?_ hb.size (fun hq => ?_); (focus (go_size; done)))); clear hb)
        | (go_at_call 27; refine (impl_Negated _ _ _ _ hs).mono ?_; rintro e w1 ⟨rfl, hb⟩; obtain ⟨hk, hz⟩ := bframe (B := w.heap.size + 1) (X := (w.alloc (.cells #[.int .i64 k, .int .i64 n, .string s] 36))) (by go_grown) (by go_size) hb; obtain ⟨hC, hF, hL, hE⟩ := kp hb; (try simp only [World.size_drew] at hC hF hL hE); (try (refine cutLt (x := w.heap.size) ?_ hb.size (fun hq => ?_); (focus (go_size; done)))); (try (refine cutLt (x := wc.heap.size) ?_ hb.size (fun hq => ?_); (focus (go_size; done)))); (try (refine cutLt (x := g) ?_ hb.size (fun hq => ?_); (focus (go_size; done)))); clear hb))
      all_goals
        go_wp2_with fail
        go_meet
        refine ⟨_, rfl, by go_grown, by go_size, ?_, ?_, by go_size, ?_, ?_, ?_, ?_, ?_, ?_⟩
        all_goals first | go_size | (simp (maxDischargeDepth := 9) [go_sem, *]; done)
    case rest =>
      obtain ⟨h, rfl, hB', hh1, hg3, hh2, hz1, c0, c1, c2, d0, d1, d2⟩ := hcut
      go_wp2_with (first
        | (go_at_call 39; refine (laws_eqValue_same _ _ _ _).mono ?_; rintro e w1 ⟨rfl, hb⟩; obtain ⟨hk, hz⟩ := bframe (B := w.heap.size + 1) (X := (w.alloc (.cells #[.int .i64 k, .int .i64 n, .string s] 36))) (by go_grown) (by go_size) hb; clear hb))
      all_goals
        go_ret
        exact ⟨rfl, bfin (by go_grown) hk⟩
end Go.Proofs.Ytikgapckknclfaa
