import Derived.Test.YthagnaeemipnlaaValsP
import Derived.Test.YthagnaeemipnlaaValsQ
import Derived.Test.YthagnaeemipnlaaValsK
import Derived.Deep.RegionHeld3
import Derived.Deep.DeepCutAuto
namespace Go.Proofs.Ythagnaeemipnlaa
open Go.RowKit

set_option maxHeartbeats 4000000 in
theorem law_FnExactHeld (op : Int) (k n : Int) (s : ByteArray) (k' n' : Int) (s' : ByteArray) (w : World) (_wp : (Lit.int .i64 op).wf = true) (_wk : (Lit.int .i64 k).wf = true) (_wn : (Lit.int .i64 n).wf = true) (hs : s.size ≤ maxLen) (_wk' : (Lit.int .i64 k').wf = true) (_wn' : (Lit.int .i64 n').wf = true) (hs' : s'.size ≤ maxLen) : Calls Try.prog 4 #[.int .i64 op, .agg #[.int .i64 k, .int .i64 n, .string s], .agg #[.int .i64 k', .int .i64 n', .string s']] w fun e w' =>
    e = .returned (.bool true) ∧ Below w.heap.size w w' := by
  by_cases hn : (1048576 : Int) - (s.size : Int) < 0
  · have HZ : Hid (szv 1048576 s.size = -1) := by show szv _ _ = _; unfold szv; rw [if_pos hn]
    go_enter Try.func4, Try.ntmps4
    go_wp2_with (first
      | (go_at_call 11; refine (laws_szValue _ _ _ _ _ hs (by omega) (by omega)).mono ?_; rintro e w1 ⟨rfl, hb⟩; rw [HZ.out]; obtain ⟨hc, hf, hC, hF, hz, hk, l0, l1⟩ := bk2 (w := w) (by go_grown) (by go_size) hb; clear hb))
    go_ret
    exact ⟨rfl, by go_grown⟩
  have HZ : Hid (szv 1048576 s.size = 1048576 - s.size) := by show szv _ _ = _; unfold szv; rw [if_neg hn]
  by_cases hn' : (1048576 : Int) - (s.size : Int) - (s'.size : Int) < 0
  · have HZ' : Hid (szv (1048576 - s.size) s'.size = -1) := by show szv _ _ = _; unfold szv; rw [if_pos hn']
    go_enter Try.func4, Try.ntmps4
    go_wp2_with fail
    refine (laws_szValue _ _ _ _ _ hs (by omega) (by omega)).mono ?_
    rintro e w1 ⟨rfl, hb⟩
    rw [HZ.out]
    obtain ⟨hc, hf, hC, hF, hz, hk, l0, l1⟩ := bk2 (w := w) (by go_grown) (by go_size) hb
    clear hb
    go_wp2_with fail
    refine (laws_szValue _ _ _ _ _ hs' (by omega) (by omega)).mono ?_
    rintro e w1 ⟨rfl, hb⟩
    rw [HZ'.out]
    obtain ⟨hc, hf, hC, hF, hz, hk, l0, l1⟩ := bk2 (w := w) (by go_grown) (by go_size) hb
    clear hb
    go_wp2_with fail
    go_ret
    exact ⟨rfl, by go_grown⟩
  have HZ' : Hid (szv (1048576 - s.size) s'.size = 1048576 - s.size - s'.size) := by show szv _ _ = _; unfold szv; rw [if_neg hn']
  go_enter Try.func4, Try.ntmps4
  go_wp2_with fail
  refine (laws_szValue _ _ _ _ _ hs (by omega) (by omega)).mono ?_
  rintro e wy ⟨rfl, hb⟩
  rw [HZ.out]
  obtain ⟨hk, hz⟩ := bframe (B := w.heap.size + 2) (X := ((w.alloc (.cells #[.int .i64 k, .int .i64 n, .string s] 29)).alloc (.cells #[.int .i64 k', .int .i64 n', .string s'] 29))) (by go_grown) (by go_size) hb
  obtain ⟨hc, _, _, _, _, _, l0, l1⟩ := bk2 (w := w) (by go_grown) (by go_size) hb
  clear hb
  go_wp2_with fail
  refine (laws_szValue _ _ _ _ _ hs' (by omega) (by omega)).mono ?_
  rintro e wz ⟨rfl, hb⟩
  rw [HZ'.out]
  obtain ⟨hk, hz⟩ := bframe (B := w.heap.size + 2) (X := ((w.alloc (.cells #[.int .i64 k, .int .i64 n, .string s] 29)).alloc (.cells #[.int .i64 k', .int .i64 n', .string s'] 29))) (by go_grown) (by go_size) hb
  obtain ⟨hc, _, _, _, _, _, l0, l1⟩ := bk2 (w := w) (by go_grown) (by go_size) hb
  clear hb
  go_upto_region 8 with fail
  go_cut [8] (fun v5 wx => ∃ g, v5 = .pointer (some ⟨g, 0, none⟩) ∧ Below (w.heap.size + 2) ((w.alloc (.cells #[.int .i64 k, .int .i64 n, .string s] 29)).alloc (.cells #[.int .i64 k', .int .i64 n', .string s'] 29)) wx ∧ w.heap.size + 2 ≤ g ∧ g < wx.heap.size ∧ w.heap.size + 2 ≤ wx.heap.size ∧ wx.cell? ⟨g, 0, none⟩ = some (.int .i64 (heldK op k n s k' n' s')) ∧ wx.cell? ⟨g, 1, none⟩ = some (.int .i64 (heldN op k n s k' n' s')) ∧ wx.cell? ⟨g, 2, none⟩ = some (.string (⟨#[]⟩)))
  case first =>
    go_region_held3 (fun w' => (∀ bq oq, bq < w.heap.size + 2 → w'.cell? ⟨bq, oq, none⟩ = ((w.alloc (.cells #[.int .i64 k, .int .i64 n, .string s] 29)).alloc (.cells #[.int .i64 k', .int .i64 n', .string s'] 29)).cell? ⟨bq, oq, none⟩) ∧ w.heap.size + 2 ≤ w'.heap.size ∧ Below (w.heap.size + 2) ((w.alloc (.cells #[.int .i64 k, .int .i64 n, .string s] 29)).alloc (.cells #[.int .i64 k', .int .i64 n', .string s'] 29)) w')
      (exact sc_of (by go_size) (by go_grown))
      (first
      | (go_at_call 12; refine (laws_toValue _ _ _ _).mono ?_; rintro e w1 ⟨rfl, hb⟩; obtain ⟨hk, hz⟩ := bframe (B := w.heap.size + 2) (X := ((w.alloc (.cells #[.int .i64 k, .int .i64 n, .string s] 29)).alloc (.cells #[.int .i64 k', .int .i64 n', .string s'] 29))) (by go_grown) (by go_size) hb; obtain ⟨hC, hF, hL, hE⟩ := kp hb; (try simp only [World.size_drew] at hC hF hL hE); (try (refine cutLt (x := wz.heap.size) ?_ hb.size (fun hq => ?_); (focus (go_size; done)))); clear hb)
      | (go_at_call 10; refine (spec_Held _ _ _ _ _ _ _ _ hs hs').mono ?_; rintro e w1 ⟨rfl, hb⟩; obtain ⟨hk, hz⟩ := bframe (B := w.heap.size + 2) (X := ((w.alloc (.cells #[.int .i64 k, .int .i64 n, .string s] 29)).alloc (.cells #[.int .i64 k', .int .i64 n', .string s'] 29))) (by go_grown) (by go_size) hb; obtain ⟨hC, hF, hL, hE⟩ := kp hb; (try simp only [World.size_drew] at hC hF hL hE); (try (refine cutLt (x := wz.heap.size) ?_ hb.size (fun hq => ?_); (focus (go_size; done)))); clear hb))
    all_goals
      go_wp2_with fail
      go_meet
      refine ⟨_, rfl, by go_grown, by go_size, ?_, by go_size, ?_, ?_, ?_⟩
      all_goals first | go_size | (simp (maxDischargeDepth := 9) [go_sem, *]; done)
  case rest =>
    obtain ⟨g, rfl, hB, hg1, hg2, hz0, g0, g1, g2⟩ := hcut
    go_upto_region 9 with fail
    go_cut [9] (fun v5 wx => ∃ h, v5 = .pointer (some ⟨h, 0, none⟩) ∧ Below (w.heap.size + 2) ((w.alloc (.cells #[.int .i64 k, .int .i64 n, .string s] 29)).alloc (.cells #[.int .i64 k', .int .i64 n', .string s'] 29)) wx ∧ w.heap.size + 2 ≤ h ∧ g < wx.heap.size ∧ h < wx.heap.size ∧ w.heap.size + 2 ≤ wx.heap.size ∧ wx.cell? ⟨g, 0, none⟩ = some (.int .i64 (heldK op k n s k' n' s')) ∧ wx.cell? ⟨g, 1, none⟩ = some (.int .i64 (heldN op k n s k' n' s')) ∧ wx.cell? ⟨g, 2, none⟩ = some (.string (⟨#[]⟩)) ∧ wx.cell? ⟨h, 0, none⟩ = some (.int .i64 (heldK op k n s k' n' s')) ∧ wx.cell? ⟨h, 1, none⟩ = some (.int .i64 (heldN op k n s k' n' s')) ∧ wx.cell? ⟨h, 2, none⟩ = some (.string (⟨#[]⟩)))
    case first =>
      go_region_held3 (fun w' => (∀ bq oq, bq < w.heap.size + 2 → w'.cell? ⟨bq, oq, none⟩ = ((w.alloc (.cells #[.int .i64 k, .int .i64 n, .string s] 29)).alloc (.cells #[.int .i64 k', .int .i64 n', .string s'] 29)).cell? ⟨bq, oq, none⟩) ∧ w.heap.size + 2 ≤ w'.heap.size ∧ Below (w.heap.size + 2) ((w.alloc (.cells #[.int .i64 k, .int .i64 n, .string s] 29)).alloc (.cells #[.int .i64 k', .int .i64 n', .string s'] 29)) w')
        (exact sc_of (by go_size) (by go_grown))
        (first
        | (go_at_call 12; refine (laws_toValue _ _ _ _).mono ?_; rintro e w1 ⟨rfl, hb⟩; obtain ⟨hk, hz⟩ := bframe (B := w.heap.size + 2) (X := ((w.alloc (.cells #[.int .i64 k, .int .i64 n, .string s] 29)).alloc (.cells #[.int .i64 k', .int .i64 n', .string s'] 29))) (by go_grown) (by go_size) hb; obtain ⟨hC, hF, hL, hE⟩ := kp hb; (try simp only [World.size_drew] at hC hF hL hE); (try (refine cutLt (x := wc.heap.size) ?_ hb.size (fun hq => ?_); (focus (go_size; done)))); (try (refine cutLt (x := g) ?_ hb.size (fun hq => ?_); (focus (go_size; done)))); clear hb)
        | (go_at_call 9; refine (impl_Held _ _ _ _ _ _ _ _ hs hs').mono ?_; rintro e w1 ⟨rfl, hb⟩; obtain ⟨hk, hz⟩ := bframe (B := w.heap.size + 2) (X := ((w.alloc (.cells #[.int .i64 k, .int .i64 n, .string s] 29)).alloc (.cells #[.int .i64 k', .int .i64 n', .string s'] 29))) (by go_grown) (by go_size) hb; obtain ⟨hC, hF, hL, hE⟩ := kp hb; (try simp only [World.size_drew] at hC hF hL hE); (try (refine cutLt (x := wc.heap.size) ?_ hb.size (fun hq => ?_); (focus (go_size; done)))); (try (refine cutLt (x := g) ?_ hb.size (fun hq => ?_); (focus (go_size; done)))); clear hb))
      all_goals
        go_wp2_with fail
        go_meet
        refine ⟨_, rfl, by go_grown, by go_size, ?_, ?_, by go_size, ?_, ?_, ?_, ?_, ?_, ?_⟩
        all_goals first | go_size | (simp (maxDischargeDepth := 9) [go_sem, *]; done)
    case rest =>
      obtain ⟨h, rfl, hB', hh1, hg3, hh2, hz1, c0, c1, c2, d0, d1, d2⟩ := hcut
      go_wp2_with (first
        | (go_at_call 13; refine (laws_eqValue_same _ _ _ _).mono ?_; rintro e w1 ⟨rfl, hb⟩; obtain ⟨hk, hz⟩ := bframe (B := w.heap.size + 2) (X := ((w.alloc (.cells #[.int .i64 k, .int .i64 n, .string s] 29)).alloc (.cells #[.int .i64 k', .int .i64 n', .string s'] 29))) (by go_grown) (by go_size) hb; clear hb))
      all_goals
        go_ret
        exact ⟨rfl, bfin (by go_grown) hk⟩
end Go.Proofs.Ythagnaeemipnlaa
