import Derived.Test.YtikgapckknclfaaValsN
import Derived.Test.YtikgapckknclfaaValsK
import Derived.Deep.RegionHeld3
import Derived.Deep.DeepCutAuto
namespace Go.Proofs.Ytikgapckknclfaa
open Go.RowKit

set_option maxHeartbeats 4000000 in
theorem law_FnExactOrder (k n : Int) (s : ByteArray) (k' n' : Int) (s' : ByteArray) (w : World) (_wk : (Lit.int .i64 k).wf = true) (_wn : (Lit.int .i64 n).wf = true) (hs : s.size ≤ maxLen) (_wk' : (Lit.int .i64 k').wf = true) (_wn' : (Lit.int .i64 n').wf = true) (hs' : s'.size ≤ maxLen) : Calls Try.prog 8 #[.agg #[.int .i64 k, .int .i64 n, .string s], .agg #[.int .i64 k', .int .i64 n', .string s']] w fun e w' =>
    e = .returned (.bool true) ∧ Below w.heap.size w w' := by
  by_cases hn : (1048576 : Int) - (s.size : Int) < 0
  · have HZ : Hid (szv 1048576 s.size = -1) := by show szv _ _ = _; unfold szv; rw [if_pos hn]
    go_enter Try.func8, Try.ntmps8
    go_wp2_with (first
      | (go_at_call 36; refine (laws_szValue _ _ _ _ _ hs (by omega) (by omega)).mono ?_; rintro e w1 ⟨rfl, hb⟩; rw [HZ.out]; obtain ⟨hc, hf, hC, hF, hz, hk, l0, l1⟩ := bk2 (w := w) (by go_grown) (by go_size) hb; clear hb))
    go_ret
    exact ⟨rfl, by go_grown⟩
  have HZ : Hid (szv 1048576 s.size = 1048576 - s.size) := by show szv _ _ = _; unfold szv; rw [if_neg hn]
  by_cases hn' : (1048576 : Int) - (s.size : Int) - (s'.size : Int) < 0
  · have HZ' : Hid (szv (1048576 - s.size) s'.size = -1) := by show szv _ _ = _; unfold szv; rw [if_pos hn']
    go_enter Try.func8, Try.ntmps8
    go_wp2_with fail
    refine (laws_szValue _ _ _ _ _ hs (by omega) (by omega)).mono ?_
    rintro e w1 ⟨rfl, hb⟩
    rw [HZ.out]
    obtain ⟨hc, hf, hC, hF, hz, hk, l0, l1⟩ := bk2 (w := w) (by go_grown) (by go_size) hb
    clear hb
    go_wp2_with fail
    refine (laws_szValue _ _ _ _ _ hs' (by omega) (by omega)).mono ?_
    rintro e w1 ⟨rfl, hb⟩
    rw [HZ'.out]
    obtain ⟨hc, hf, hC, hF, hz, hk, l0, l1⟩ := bk2 (w := w) (by go_grown) (by go_size) hb
    clear hb
    go_wp2_with fail
    go_ret
    exact ⟨rfl, by go_grown⟩
  have HZ' : Hid (szv (1048576 - s.size) s'.size = 1048576 - s.size - s'.size) := by show szv _ _ = _; unfold szv; rw [if_neg hn']
  go_enter Try.func8, Try.ntmps8
  go_wp2_with fail
  refine (laws_szValue _ _ _ _ _ hs (by omega) (by omega)).mono ?_
  rintro e wy ⟨rfl, hb⟩
  rw [HZ.out]
  obtain ⟨hk, hz⟩ := bframe (B := w.heap.size + 2) (X := ((w.alloc (.cells #[.int .i64 k, .int .i64 n, .string s] 36)).alloc (.cells #[.int .i64 k', .int .i64 n', .string s'] 36))) (by go_grown) (by go_size) hb
  obtain ⟨hc, _, _, _, _, _, l0, l1⟩ := bk2 (w := w) (by go_grown) (by go_size) hb
  clear hb
  go_wp2_with fail
  refine (laws_szValue _ _ _ _ _ hs' (by omega) (by omega)).mono ?_
  rintro e wz ⟨rfl, hb⟩
  rw [HZ'.out]
  obtain ⟨hk, hz⟩ := bframe (B := w.heap.size + 2) (X := ((w.alloc (.cells #[.int .i64 k, .int .i64 n, .string s] 36)).alloc (.cells #[.int .i64 k', .int .i64 n', .string s'] 36))) (by go_grown) (by go_size) hb
  obtain ⟨hc, _, _, _, _, _, l0, l1⟩ := bk2 (w := w) (by go_grown) (by go_size) hb
  clear hb
  go_wp2_with fail
  go_region_held3 (fun w' => (∀ bq oq, bq < w.heap.size + 2 → w'.cell? ⟨bq, oq, none⟩ = ((w.alloc (.cells #[.int .i64 k, .int .i64 n, .string s] 36)).alloc (.cells #[.int .i64 k', .int .i64 n', .string s'] 36)).cell? ⟨bq, oq, none⟩) ∧ w.heap.size + 2 ≤ w'.heap.size ∧ Below (w.heap.size + 2) ((w.alloc (.cells #[.int .i64 k, .int .i64 n, .string s] 36)).alloc (.cells #[.int .i64 k', .int .i64 n', .string s'] 36)) w')
    (exact sc_of (by go_size) (by go_grown))
    (first
    | (go_at_call 37; refine (laws_toValue _ _ _ _).mono ?_; rintro e w1 ⟨rfl, hb⟩; obtain ⟨hk, hz⟩ := bframe (B := w.heap.size + 2) (X := ((w.alloc (.cells #[.int .i64 k, .int .i64 n, .string s] 36)).alloc (.cells #[.int .i64 k', .int .i64 n', .string s'] 36))) (by go_grown) (by go_size) hb; obtain ⟨hC, hF, hL, hE⟩ := kp hb; (try simp only [World.size_drew] at hC hF hL hE); (try (refine cutLt (x := wz.heap.size) ?_ hb.size (fun hq => ?_); (focus (go_size; done)))); clear hb)
    | (go_at_call 19; refine (spec_Order _ _ _ _ _ _ _).mono ?_; rintro e w1 ⟨rfl, hb⟩; obtain ⟨hk, hz⟩ := bframe (B := w.heap.size + 2) (X := ((w.alloc (.cells #[.int .i64 k, .int .i64 n, .string s] 36)).alloc (.cells #[.int .i64 k', .int .i64 n', .string s'] 36))) (by go_grown) (by go_size) hb; obtain ⟨hC, hF, hL, hE⟩ := kp hb; (try simp only [World.size_drew] at hC hF hL hE); (try (refine cutLt (x := wz.heap.size) ?_ hb.size (fun hq => ?_); (focus (go_size; done)))); clear hb))
  go_wp2_with fail
  go_region_held3 (fun w' => (∀ bq oq, bq < w.heap.size + 2 → w'.cell? ⟨bq, oq, none⟩ = ((w.alloc (.cells #[.int .i64 k, .int .i64 n, .string s] 36)).alloc (.cells #[.int .i64 k', .int .i64 n', .string s'] 36)).cell? ⟨bq, oq, none⟩) ∧ w.heap.size + 2 ≤ w'.heap.size ∧ Below (w.heap.size + 2) ((w.alloc (.cells #[.int .i64 k, .int .i64 n, .string s] 36)).alloc (.cells #[.int .i64 k', .int .i64 n', .string s'] 36)) w')
    (exact sc_of (by go_size) (by go_grown))
    (first
    | (go_at_call 37; refine (laws_toValue _ _ _ _).mono ?_; rintro e w1 ⟨rfl, hb⟩; obtain ⟨hk, hz⟩ := bframe (B := w.heap.size + 2) (X := ((w.alloc (.cells #[.int .i64 k, .int .i64 n, .string s] 36)).alloc (.cells #[.int .i64 k', .int .i64 n', .string s'] 36))) (by go_grown) (by go_size) hb; obtain ⟨hC, hF, hL, hE⟩ := kp hb; (try simp only [World.size_drew] at hC hF hL hE); (try (refine cutLt (x := wz.heap.size) ?_ hb.size (fun hq => ?_); (focus (go_size; done)))); clear hb)
    | (go_at_call 18; refine (impl_Order _ _ _ _ _ _ _).mono ?_; rintro e w1 ⟨rfl, hb⟩; obtain ⟨hk, hz⟩ := bframe (B := w.heap.size + 2) (X := ((w.alloc (.cells #[.int .i64 k, .int .i64 n, .string s] 36)).alloc (.cells #[.int .i64 k', .int .i64 n', .string s'] 36))) (by go_grown) (by go_size) hb; obtain ⟨hC, hF, hL, hE⟩ := kp hb; (try simp only [World.size_drew] at hC hF hL hE); (try (refine cutLt (x := wz.heap.size) ?_ hb.size (fun hq => ?_); (focus (go_size; done)))); clear hb))
  go_wp2_with fail
  go_ret
  exact ⟨rfl, bfin (n := 2) (X := ((w.alloc (.cells #[.int .i64 k, .int .i64 n, .string s] 36)).alloc (.cells #[.int .i64 k', .int .i64 n', .string s'] 36))) (by go_grown) (by go_grown)⟩
end Go.Proofs.Ytikgapckknclfaa
