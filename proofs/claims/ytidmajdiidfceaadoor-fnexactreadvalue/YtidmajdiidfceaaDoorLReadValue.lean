import Derived.Test.YtidmajdiidfceaaDoorRvG
import Derived.Test.YtidmajdiidfceaaDoorRvV
namespace Go.Proofs.YtidmajdiidfceaaDoor
open Go.RowKit
set_option linter.unusedSimpArgs false
set_option linter.unusedVariables false

set_option maxHeartbeats 400000 in
theorem laws_eqValue_same (k n : Int) (s : ByteArray) (w : World) : Calls Tryd.prog 32 #[.agg #[.int .i64 k, .int .i64 n, .string s], .agg #[.int .i64 k, .int .i64 n, .string s]] w fun e w' =>
    e = .returned (.bool true) ∧ Below w.heap.size w w' := by
  go_enter Tryd.func32, Tryd.ntmps32
  go_wp2
  all_goals
    go_ret
    exact ⟨rfl, by go_grown⟩
theorem rvT_shape (g : Int × Int × ByteArray) : ∃ (P Q : Int) (t : ByteArray) (K : Bool), rvT g = .tuple #[.agg #[.int .i64 P, .int .i64 Q, .string t], .bool K] := by
  unfold rvT
  split
  · exact ⟨_, _, _, _, rfl⟩
  · exact ⟨_, _, _, _, rfl⟩

set_option maxHeartbeats 2000000 in
theorem law_FnExactReadValue (s : ByteArray) (w : World) (hv : Vars w) (hs : s.size ≤ maxLen) : Calls Tryd.prog 7 #[.string s] w fun e w' =>
    e = .returned (.bool true) ∧ Below w.heap.size w w' := by
  have HV : Hid (Vars w) := hv
  clear hv
  unfold maxLen at hs
  by_cases hbig : (1048576 : Int) < (s.size : Int)
  · go_enter Tryd.func7, Tryd.ntmps7
    go_wp2_with fail
    go_ret
    exact ⟨rfl, by go_grown⟩
  obtain ⟨P, Q, t, K, hpl⟩ := rvT_shape (guess s)
  have HQ : Hid (rvT (guess s) = .tuple #[.agg #[.int .i64 P, .int .i64 Q, .string t], .bool K]) := hpl
  have HP : Hid (rvS s = .tuple #[.agg #[.int .i64 P, .int .i64 Q, .string t], .bool K]) := (rv_same s).symm.trans hpl
  clear hpl
  go_enter Tryd.func7, Tryd.ntmps7
  go_wp2_with fail
  refine (spec_ReadValue s _ (by omega)).mono ?_
  rintro e w1 ⟨rfl, hb⟩
  rw [HP.out]
  have hk1 : Below w.heap.size w w1 := hb
  have hs1 := hb.size
  clear hb
  go_wp2_with fail
  refine (impl_ReadValue s _ (by omega) (HV.out.below (by go_grown))).mono ?_
  rintro e w2 ⟨rfl, hb⟩
  rw [HQ.out]
  obtain ⟨hC, hF, hL, hE⟩ := kp hb
  have l1 : w1.heap.size < w2.heap.size := Nat.lt_of_lt_of_le (by go_size) hb.size
  have hk2 : Below w.heap.size w w2 := bchain (hk1.alloc hk1.size _) hb
  have hs2 := hk2.size
  clear hb
  go_wp2_with (first
    | (go_at_call 32; refine (laws_eqValue_same P Q t _).mono ?_; rintro e w3 ⟨rfl, hb⟩; have hk3 : Below w.heap.size w w3 := bchain (hk2.alloc hk2.size _) hb; clear hb))
  all_goals go_ret
  all_goals exact ⟨rfl, hk3⟩
end Go.Proofs.YtidmajdiidfceaaDoor
