import Derived.Test.YtjkioadjclfmiaaDoorFrD
import Derived.Test.YtjkioadjclfmiaaDoorSsA
namespace Go.Proofs.YtjkioadjclfmiaaDoor
open Go.RowKit
set_option linter.unusedSimpArgs false
set_option linter.unusedVariables false

set_option maxHeartbeats 4000000 in
theorem law_FnExactTakeFrames (s : ByteArray) (w : World) (hs : s.size ≤ 9223372036854775807) (hC : CR w) (hz : 0 < w.heap.size) : Calls Tryd.prog 5 #[.string s] w fun e w' =>
    e = .returned (.bool true) ∧ Below w.heap.size w w' := by
  have HC : Hid (CR w) := hC
  clear hC
  by_cases h : 1048576 < s.size
  · have q : (1048576 : Int) < (s.size : Int) := by omega
    go_enter Tryd.func5, Tryd.ntmps5
    go_wp2_with fail
    go_ret
    exact ⟨rfl, by go_grown⟩
  have q : ¬ (1048576 : Int) < (s.size : Int) := by omega
  go_enter Tryd.func5, Tryd.ntmps5
  go_wp2_with fail
  refine (spec_TakeFrames s (by omega) _).mono ?_
  rintro e u1 ⟨xs, a, v0, rfl, hrd, hfb, ho, hb⟩
  have HR : Hid (Rd s xs a) := hrd
  have HF : Hid (frB s a = false) := hfb
  have hle := hrd.le
  have hmany := hrd.many
  obtain ⟨A0, cap0, rfl, _, _⟩ := own_shape ho
  obtain ⟨n, HN⟩ : ∃ n : Nat, Hid (n = xs.length) := ⟨_, rfl⟩
  rw [← HN.out] at ho hmany ⊢
  have O0 : Hid (u1.ownsRow w.heap.size 9 1 (.slice A0 n cap0) n (xs.map Value.string)) := ho
  have K1 : Hid (Below w.heap.size w u1) := hb
  clear hb ho hrd hfb
  go_wp2_with fail
  refine (impl_TakeFrames s (by omega) _ (HC.out.of K1.out hz) (Nat.lt_of_lt_of_le hz K1.out.size)).mono ?_
  rintro e u2 ⟨ys, b, v1, rfl, hrd, hfb, ho, hb⟩
  obtain ⟨rfl, rfl⟩ := HR.out.unique HF.out hrd hfb
  obtain ⟨A1, cap1, rfl, _, _⟩ := own_shape ho
  rw [← HN.out] at ho ⊢
  have O1 : Hid (u2.ownsRow u1.heap.size 9 1 (.slice A1 n cap1) n (xs.map Value.string)) := ho
  have K2 : Hid (Below w.heap.size w u2) := bchain K1.out hb
  have O02 : Hid (u2.ownsRow w.heap.size 9 1 (.slice A0 n cap0) n (xs.map Value.string)) := own_below O0.out hb
  have NE : Hid ((Value.slice A0 n cap0).ownBlock = none ∨ (Value.slice A0 n cap0).ownBlock ≠ (Value.slice A1 n cap1).ownBlock) := own_ne O0.out O1.out (Nat.le_refl _)
  clear hb ho hrd hfb
  go_wp2_with fail
  refine (laws_eqStringS _ (srow_own O1.out).1 (srow_own O02.out).1 HN.out).mono ?_
  rintro e u3 ⟨rfl, hb⟩
  have O03 : Hid (u3.ownsRow w.heap.size 9 1 (.slice A0 n cap0) n (xs.map Value.string)) := own_below O02.out hb
  have O13 : Hid (u3.ownsRow u1.heap.size 9 1 (.slice A1 n cap1) n (xs.map Value.string)) := own_below O1.out hb
  have K3 : Hid (Below w.heap.size w u3) := bchain K2.out hb
  clear hb O02
  go_wp2_with fail
  refine (laws_markStringS _ O13.out (by omega)).mono ?_
  rintro e u4 ⟨rfl, ho, hg⟩
  have O14 : Hid (u4.ownsRow u1.heap.size 9 1 (.slice A1 n cap1) n ((mkS n).map Value.string)) := ho
  have O04 : Hid (u4.ownsRow w.heap.size 9 1 (.slice A0 n cap0) n (xs.map Value.string)) := O03.out.kept hg NE.out
  have K4 : Hid (Below w.heap.size w u4) := K3.out.grown hg K3.out.size (fun q hq => Nat.le_trans K1.out.size (O13.out.lt q hq).1)
  clear ho hg O03 O13
  go_wp2_with fail
  refine (laws_heldStringS _ (srow_own O14.out).1 (by omega)).mono ?_
  rintro e u5 ⟨rfl, hb⟩
  have O15 : Hid (u5.ownsRow u1.heap.size 9 1 (.slice A1 n cap1) n ((mkS n).map Value.string)) := own_below O14.out hb
  have O05 : Hid (u5.ownsRow w.heap.size 9 1 (.slice A0 n cap0) n (xs.map Value.string)) := own_below O04.out hb
  have K5 : Hid (Below w.heap.size w u5) := bchain K4.out hb
  clear hb O04 O14
  have q2 : ¬ (1 + (n : Int) < 0) := by omega
  go_wp2_with fail
  refine (impl_TakeFrames s (by omega) _ (HC.out.of K5.out hz) (Nat.lt_of_lt_of_le hz K5.out.size)).mono ?_
  rintro e u6 ⟨ys, b, v2, rfl, hrd, hfb, ho, hb⟩
  obtain ⟨rfl, rfl⟩ := HR.out.unique HF.out hrd hfb
  obtain ⟨A2, cap2, rfl, _, _⟩ := own_shape ho
  rw [← HN.out] at ho ⊢
  have O2 : Hid (u6.ownsRow u5.heap.size 9 1 (.slice A2 n cap2) n (xs.map Value.string)) := ho
  have K6 : Hid (Below w.heap.size w u6) := bchain K5.out hb
  have O06 : Hid (u6.ownsRow w.heap.size 9 1 (.slice A0 n cap0) n (xs.map Value.string)) := own_below O05.out hb
  have O16 : Hid (u6.ownsRow u1.heap.size 9 1 (.slice A1 n cap1) n ((mkS n).map Value.string)) := own_below O15.out hb
  clear hb ho hrd hfb O05 O15
  go_wp2_with fail
  refine (laws_eqStringS _ (srow_own O2.out).1 (srow_own O06.out).1 HN.out).mono ?_
  rintro e u7 ⟨rfl, hb⟩
  have O17 : Hid (u7.ownsRow u1.heap.size 9 1 (.slice A1 n cap1) n ((mkS n).map Value.string)) := own_below O16.out hb
  have K7 : Hid (Below w.heap.size w u7) := bchain K6.out hb
  clear hb O16 O06
  go_wp2_with fail
  refine (laws_heldStringS _ (srow_own O17.out).1 (by omega)).mono ?_
  rintro e u8 ⟨rfl, hb⟩
  have K8 : Hid (Below w.heap.size w u8) := bchain K7.out hb
  clear hb
  go_wp2_with fail
  go_ret
  exact ⟨rfl, K8.out⟩
end Go.Proofs.YtjkioadjclfmiaaDoor
