import Derived.Test.YtliipepekpdkfaaValsG
namespace Go.Proofs.Ytliipepekpdkfaa
open Go.RowKit

def szv (l : Int) (m : Nat) : Int := if l - m < 0 then -1 else l - m

set_option maxHeartbeats 400000 in
theorem laws_szValue (k n : Int) (s : ByteArray) (l : Int) (w : World) (hs : s.size ≤ maxLen) (h0 : 0 ≤ l) (h1 : l ≤ 1048576) : Calls Try.prog 36 #[.agg #[.int .i64 k, .int .i64 n, .string s], .int .i64 l] w fun e w' =>
    e = .returned (.int .i64 (szv l s.size)) ∧ Below w.heap.size w w' := by
  unfold maxLen at hs
  by_cases hn : l - (s.size : Int) < 0
  · go_enter Try.func36, Try.ntmps36
    go_wp2
    all_goals
      go_ret
      exact ⟨ret_int (by unfold szv; rw [if_pos hn]), by go_grown⟩
  · go_enter Try.func36, Try.ntmps36
    go_wp2
    all_goals
      go_ret
      exact ⟨ret_int (by unfold szv; rw [if_neg (by omega)]), by go_grown⟩

set_option maxHeartbeats 400000 in
theorem laws_toValue (k n : Int) (s : ByteArray) (w : World) : Calls Try.prog 37 #[.agg #[.int .i64 k, .int .i64 n, .string s]] w fun e w' =>
    e = .returned (.agg #[.int .i64 k, .int .i64 n, .string s]) ∧ Below w.heap.size w w' := by
  go_enter Try.func37, Try.ntmps37
  go_wp2
  go_returns
  exact ⟨rfl, by go_grown⟩

set_option maxHeartbeats 400000 in
theorem law_FnExactValueOk (k n : Int) (s : ByteArray) (w : World) (_wk : (Lit.int .i64 k).wf = true) (_wn : (Lit.int .i64 n).wf = true) (hs : s.size ≤ maxLen) : Calls Try.prog 7 #[.agg #[.int .i64 k, .int .i64 n, .string s]] w fun e w' =>
    e = .returned (.bool true) ∧ Below w.heap.size w w' := by
  by_cases hn : (1048576 : Int) - (s.size : Int) < 0
  · have HZ : Hid (szv 1048576 s.size = -1) := by show szv _ _ = _; unfold szv; rw [if_pos hn]
    go_enter Try.func7, Try.ntmps7
    go_wp2_with (first
      | (go_at_call 36; refine (laws_szValue _ _ _ _ _ hs (by omega) (by omega)).mono ?_; rintro e w1 ⟨rfl, hb⟩; rw [HZ.out]; obtain ⟨hc, hf, hC, hF, hz, hk, l0⟩ := bk1 (w := w) (by go_grown) (by go_size) hb; clear hb))
    go_ret
    exact ⟨rfl, by go_grown⟩
  · have HZ : Hid (szv 1048576 s.size = 1048576 - s.size) := by show szv _ _ = _; unfold szv; rw [if_neg hn]
    go_enter Try.func7, Try.ntmps7
    go_wp2_with (first
      | (go_at_call 36; refine (laws_szValue _ _ _ _ _ hs (by omega) (by omega)).mono ?_; rintro e w1 ⟨rfl, hb⟩; rw [HZ.out]; obtain ⟨hc, hf, hC, hF, hz, hk, l0⟩ := bk1 (w := w) (by go_grown) (by go_size) hb; clear hb)
      | (go_at_call 37; refine (laws_toValue _ _ _ _).mono ?_; rintro e w1 ⟨rfl, hb⟩; obtain ⟨hc, hf, hC, hF, hz, hk, l0⟩ := bk1 (w := w) (by go_grown) (by go_size) hb; clear hb)
      | (go_at_call 32; refine (spec_ValueOk _ _ _ _ hs).mono ?_; rintro e w1 ⟨rfl, hb⟩; obtain ⟨hc, hf, hC, hF, hz, hk, l0⟩ := bk1 (w := w) (by go_grown) (by go_size) hb; clear hb)
      | (go_at_call 38; refine (impl_ValueOk _ _ _ _ hs).mono ?_; rintro e w1 ⟨rfl, hb⟩; obtain ⟨hc, hf, hC, hF, hz, hk, l0⟩ := bk1 (w := w) (by go_grown) (by go_size) hb; clear hb))
    all_goals
      go_ret
      exact ⟨rfl, by go_grown⟩
end Go.Proofs.Ytliipepekpdkfaa
