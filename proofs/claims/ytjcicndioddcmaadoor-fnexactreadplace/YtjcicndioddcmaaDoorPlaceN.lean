import Derived.Test.YtjcicndioddcmaaDoorPlaceM
namespace Go.Proofs.YtjcicndioddcmaaDoor
open Go.RowKit

set_option maxHeartbeats 400000 in
theorem laws_eqRef (c r : Int) (w : World) : Calls Tryd.prog 56 #[.agg #[.int .i64 c, .int .i64 r], .agg #[.int .i64 c, .int .i64 r]] w fun e w' =>
    e = .returned (.bool true) ∧ Below w.heap.size w w' := by
  go_enter Tryd.func56, Tryd.ntmps56
  go_wp2
  go_ret
  exact ⟨rfl, by go_grown⟩
set_option maxHeartbeats 1000000 in
theorem laws_eqPlace (c r : Int) (x y : Bool) (w : World) : Calls Tryd.prog 31 #[.agg #[.int .i64 c, .int .i64 r, .bool x, .bool y], .agg #[.int .i64 c, .int .i64 r, .bool x, .bool y]] w fun e w' =>
    e = .returned (.bool true) ∧ Below w.heap.size w w' := by
  go_enter Tryd.func31, Tryd.ntmps31
  go_wp2_with (first
    | (go_at_call 56; refine (laws_eqRef _ _ _).mono ?_; rintro e w1 ⟨rfl, hb⟩; obtain ⟨hc, hf, hC, hF, hz, hk, l0, l1⟩ := bk2 (w := w) (by go_grown) (by go_size) hb; clear hb))
  all_goals go_ret
  all_goals exact ⟨rfl, by go_grown⟩

set_option maxHeartbeats 2000000 in
theorem law_FnExactReadPlace_of (HS : ∀ (s : ByteArray) (w : World), s.size ≤ 1048576 → Calls Tryd.prog 21 #[.string s] w fun e w' => e = .returned (plV (rpC s) (l1I (rp3 s)) (hasD s) (hasD (rp2 s))) ∧ Below w.heap.size w w')
    (s : ByteArray) (w : World) (hv : Vars w) (_hs : s.size ≤ maxLen) : Calls Tryd.prog 6 #[.string s] w fun e w' =>
    e = .returned (.bool true) ∧ Below w.heap.size w w' := by
  have HSH : Hid (∀ (s : ByteArray) (w : World), s.size ≤ 1048576 → Calls Tryd.prog 21 #[.string s] w fun e w' => e = .returned (plV (rpC s) (l1I (rp3 s)) (hasD s) (hasD (rp2 s))) ∧ Below w.heap.size w w') := HS
  clear HS
  have HV : Hid (Vars w) := hv
  clear hv
  by_cases hbig : (1048576 : Int) < (s.size : Int)
  · go_enter Tryd.func6, Tryd.ntmps6
    go_wp2_with fail
    go_ret
    exact ⟨rfl, by go_grown⟩
  obtain ⟨P, Q, X, Y, K, hpl⟩ : ∃ P Q X Y K, plV (rpC s) (l1I (rp3 s)) (hasD s) (hasD (rp2 s)) = .tuple #[.agg #[.int .i64 P, .int .i64 Q, .bool X, .bool Y], .bool K] := ⟨_, _, _, _, _, rfl⟩
  have HP : Hid (plV (rpC s) (l1I (rp3 s)) (hasD s) (hasD (rp2 s)) = .tuple #[.agg #[.int .i64 P, .int .i64 Q, .bool X, .bool Y], .bool K]) := hpl
  have HQ : Hid (plV (rpC s) (rdec (rp3 s).data.toList) (hasD s) (hasD (rp2 s)) = .tuple #[.agg #[.int .i64 P, .int .i64 Q, .bool X, .bool Y], .bool K]) := (pl_same _ _ _ _).trans hpl
  clear hpl
  go_enter Tryd.func6, Tryd.ntmps6
  go_wp2_with fail
  refine (HSH.out s _ (by omega)).mono ?_
  rintro e w1 ⟨rfl, hb⟩
  rw [HP.out]
  have hk1 : Below w.heap.size w w1 := hb
  have hs1 := hb.size
  clear hb
  go_wp2_with fail
  refine (impl_ReadPlace s _ (by omega) (HV.out.below (by go_grown))).mono ?_
  rintro e w2 ⟨rfl, hb⟩
  rw [HQ.out]
  obtain ⟨hC, hF, hL, hE⟩ := kp hb
  have l1 : w1.heap.size < w2.heap.size := Nat.lt_of_lt_of_le (by go_size) hb.size
  have hk2 : Below w.heap.size w w2 := bchain (hk1.alloc hk1.size _) hb
  have hs2 := hk2.size
  clear hb
  go_wp2_with (first
    | (go_at_call 31; refine (laws_eqPlace P Q X Y _).mono ?_; rintro e w3 ⟨rfl, hb⟩; have hk3 : Below w.heap.size w w3 := bchain (hk2.alloc hk2.size _) hb; clear hb))
  all_goals go_ret
  all_goals exact ⟨rfl, hk3⟩
end Go.Proofs.YtjcicndioddcmaaDoor
