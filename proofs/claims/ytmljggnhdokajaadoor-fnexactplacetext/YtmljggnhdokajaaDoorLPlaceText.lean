import Derived.Test.YtmljggnhdokajaaDoorPlaceE
namespace Go.Proofs.YtmljggnhdokajaaDoor
open Go.RowKit

theorem str_same (s : ByteArray) : (s.toList == s.toList) = true := by simp
set_option maxHeartbeats 2000000 in
theorem law_FnExactPlaceText (c r : Int) (x y : Bool) (w : World) : Calls Tryd.prog 5 #[.agg #[.int .i64 c, .int .i64 r, .bool x, .bool y]] w fun e w' =>
    e = .returned (.bool true) ∧ Below w.heap.size w w' := by
  cases ho : refOkB c r
  · go_enter Tryd.func5, Tryd.ntmps5
    go_wp2_with (first
      | (go_at_call 30; refine (laws_toPlace _ _ _ _ _).mono ?_; rintro e w1 ⟨rfl, hb⟩; obtain ⟨hc, hf, hC, hF, hz, hk, l0⟩ := bk1 (w := w) (by go_grown) (by go_size) hb; clear hb)
      | (go_at_call 18; refine (spec_PlaceText_no c r x y _ ho).mono ?_; rintro e w1 ⟨rfl, hb⟩; obtain ⟨hc, hf, hC, hF, hz, hk, l0⟩ := bk1 (w := w) (by go_grown) (by go_size) hb; clear hb)
      | (go_at_call 16; refine (impl_PlaceText_no c r x y _ ho).mono ?_; rintro e w1 ⟨rfl, hb⟩; obtain ⟨hc, hf, hC, hF, hz, hk, l0⟩ := bk1 (w := w) (by go_grown) (by go_size) hb; clear hb))
    go_ret
    exact ⟨rfl, by go_grown⟩
  · obtain ⟨i, rfl, hi⟩ : ∃ i : Nat, r = (i : Int) ∧ i < 100 := by
      have hq := ho
      simp only [refOkB, decide_eq_true_eq] at hq
      exact ⟨r.toNat, by omega, by omega⟩
    have HO : Hid (refOkB c i = true) := ho
    clear ho
    go_enter Tryd.func5, Tryd.ntmps5
    go_wp2_with (first
      | (go_at_call 30; refine (laws_toPlace _ _ _ _ _).mono ?_; rintro e w1 ⟨rfl, hb⟩; obtain ⟨hc, hf, hC, hF, hz, hk, l0⟩ := bk1 (w := w) (by go_grown) (by go_size) hb; clear hb)
      | (go_at_call 18; refine (spec_PlaceText_ok c i x y _ hi HO.out).mono ?_; rintro e w1 ⟨rfl, hb⟩; obtain ⟨hc, hf, hC, hF, hz, hk, l0⟩ := bk1 (w := w) (by go_grown) (by go_size) hb; clear hb)
      | (go_at_call 16; refine (impl_PlaceText_ok c i x y _ hi HO.out).mono ?_; rintro e w1 ⟨rfl, hb⟩; obtain ⟨hc, hf, hC, hF, hz, hk, l0⟩ := bk1 (w := w) (by go_grown) (by go_size) hb; clear hb))
    go_ret
    exact ⟨rfl, by go_grown⟩
end Go.Proofs.YtmljggnhdokajaaDoor
