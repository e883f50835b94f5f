import Derived.Test.YtjkioadjclfmiaaDoorCrC
namespace Go.Proofs.YtjkioadjclfmiaaDoor
open Go.RowKit

theorem str_sameC (s : ByteArray) : (s.toList == s.toList) = true := by simp
set_option maxHeartbeats 1000000 in
theorem law_FnExactFrameOf (s : ByteArray) (w : World) (hs : s.size ≤ 9223372036854775807) (hC : CR w) (hz : 0 < w.heap.size) : Calls Tryd.prog 4 #[.string s] w fun e w' =>
    e = .returned (.bool true) ∧ Below w.heap.size w w' := by
  by_cases h : 1048576 < s.size
  · have q : (1048576 : Int) < (s.size : Int) := by omega
    go_enter Tryd.func4, Tryd.ntmps4
    go_wp2_with fail
    go_ret
    exact ⟨rfl, by go_grown⟩
  · have q : ¬ (1048576 : Int) < (s.size : Int) := by omega
    obtain ⟨f, HF⟩ : ∃ f : ByteArray, Hid (f = frameT s) := ⟨_, rfl⟩
    have e1 := str_sameC f
    go_enter Tryd.func4, Tryd.ntmps4
    go_wp2_with (first
      | (go_at_call 13; refine (spec_FrameOf s (by omega) _).mono ?_; rintro e w1 ⟨rfl, hb⟩; rw [← HF.out])
      | (go_at_call 11; refine (impl_FrameOf s (by omega) _ (hC.of hb hz) (Nat.lt_of_lt_of_le hz hb.size)).mono ?_; rintro e w2 ⟨rfl, hb2⟩; rw [← HF.out]; have hb3 := bchain hb hb2; clear hb hb2))
    go_ret
    exact ⟨rfl, hb3⟩
end Go.Proofs.YtjkioadjclfmiaaDoor
