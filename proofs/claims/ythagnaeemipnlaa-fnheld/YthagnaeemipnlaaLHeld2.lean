import Derived.Test.YthagnaeemipnlaaDrawF
import Derived.Test.YthagnaeemipnlaaOpenB
import Derived.Test.YthagnaeemipnlaaLawM
import Derived.Deep.RegionHeld3
import Derived.Deep.DeepCutAuto
namespace Go.Proofs.Ythagnaeemipnlaa
open Go.RowKit

set_option maxRecDepth 100000 in
set_option maxHeartbeats 8000000 in
theorem law_FnHeld (A : Option Addr) (len cap : Nat) (w : World) (hz : Co w A len) : Calls Try.prog 3 #[.slice A len cap] w fun e w' =>
    e = .returned (.bool true) ∧ Below w.heap.size w w' := by
  by_cases hbig : (1048576 : Int) < (len : Int)
  · go_enter Try.func3, Try.ntmps3
    go_wp2_with fail
    refine (laws_big A len cap _).mono ?_
    rintro e wq ⟨rfl, hw⟩
    subst wq
    go_wp2_with fail
    go_ret
    exact ⟨rfl, by go_grown⟩
  have HC : Hid (Cd w A len) := ⟨by omega, hz.2⟩
  clear hz
  go_enter Try.func3, Try.ntmps3
  go_wp2_with fail
  refine (laws_big A len cap _).mono ?_
  rintro e wq ⟨rfl, hw⟩
  subst wq
  go_wp2_with fail
  refine (draw_held A len cap _ (HC.out.below (by go_grown))).mono ?_
  rintro e w1 ⟨op, k, n, s, k', n', s', rfl, hs, hs', hk1⟩
  have HS : Hid (s.size ≤ maxLen) := hs
  have HS' : Hid (s'.size ≤ maxLen) := hs'
  have HK1 : Hid (Below w.heap.size w w1) := hk1
  clear hs hs' hk1 HC
  go_wp2_with fail
  have hfl := @fld1
  have HF := held_facts2 k n s k' n' s'
  rcases HF with ⟨E, K6, N6, K8, N8, K11, N11⟩ | ⟨x, y, z, K6, N6, K8, N8, K10, N10, M8, L8, N7, N9, N11, hsum, hx, hy, hzz⟩
  · skip
    go_region_held3 (fun w' => (∀ bq oq, bq < w1.heap.size + 2 → w'.cell? ⟨bq, oq, none⟩ = ((w1.alloc (.cells #[.int .i64 (k), .int .i64 (n), .string s] 25)).alloc (.cells #[.int .i64 (k'), .int .i64 (n'), .string s'] 25)).cell? ⟨bq, oq, none⟩) ∧ w1.heap.size + 2 ≤ w'.heap.size ∧ Below (w1.heap.size + 2) ((w1.alloc (.cells #[.int .i64 (k), .int .i64 (n), .string s] 25)).alloc (.cells #[.int .i64 (k'), .int .i64 (n'), .string s'] 25)) w')
      (exact sc_of (by go_size) (by go_grown))
      (first
      | (go_at_call 9; refine (impl_Held _ _ _ _ _ _ _ _ ?_ ?_).mono ?_; (focus (first | with_reducible exact HS.out | with_reducible exact HS'.out | with_reducible exact nil_size)); (focus (first | with_reducible exact HS.out | with_reducible exact HS'.out | with_reducible exact nil_size)); rintro e wr1 ⟨rfl, hb⟩; obtain ⟨hk, hz⟩ := bframe (B := w1.heap.size + 2) (X := ((w1.alloc (.cells #[.int .i64 (k), .int .i64 (n), .string s] 25)).alloc (.cells #[.int .i64 (k'), .int .i64 (n'), .string s'] 25))) (by go_grown) (by go_size) hb; have hC := fun b o h => hk.cell (p := ⟨b, o, none⟩) h; clear hb)
      | (go_at_call 10; refine (spec_Held _ _ _ _ _ _ _ _ ?_ ?_).mono ?_; (focus (first | with_reducible exact HS.out | with_reducible exact HS'.out | with_reducible exact nil_size)); (focus (first | with_reducible exact HS.out | with_reducible exact HS'.out | with_reducible exact nil_size)); rintro e wr1 ⟨rfl, hb⟩; obtain ⟨hk, hz⟩ := bframe (B := w1.heap.size + 2) (X := ((w1.alloc (.cells #[.int .i64 (k), .int .i64 (n), .string s] 25)).alloc (.cells #[.int .i64 (k'), .int .i64 (n'), .string s'] 25))) (by go_grown) (by go_size) hb; have hC := fun b o h => hk.cell (p := ⟨b, o, none⟩) h; clear hb))
    go_wp2_with fail
    refine (impl_Held 6 k n s k' n' s' _ HS.out HS'.out).mono ?_
    rintro e w2 ⟨rfl, hb⟩
    rw [K6, N6]
    obtain ⟨hk, hz⟩ := bframe (B := w1.heap.size + 2) (X := ((w1.alloc (.cells #[.int .i64 (k), .int .i64 (n), .string s] 25)).alloc (.cells #[.int .i64 (k'), .int .i64 (n'), .string s'] 25))) (by go_grown) (by go_size) hb
    clear hb
    obtain ⟨a0, a1, a2, la⟩ := carryXa hk hz
    obtain ⟨b0, b1, b2, lb⟩ := carryXb hk hz
    have HK2 : Hid (Below w.heap.size w w2) := chX2 HK1.out hk
    clear hk hz
    go_wp2_with fail
    go_region_held3 (fun w' => (∀ bq oq, bq < w2.heap.size + 1 → w'.cell? ⟨bq, oq, none⟩ = (w2.alloc (.cells #[.int .i64 (4), .int .i64 (E), .string ⟨#[]⟩] 25)).cell? ⟨bq, oq, none⟩) ∧ w2.heap.size + 1 ≤ w'.heap.size ∧ Below (w2.heap.size + 1) (w2.alloc (.cells #[.int .i64 (4), .int .i64 (E), .string ⟨#[]⟩] 25)) w')
      (exact sc_of (by go_size) (by go_grown))
      (first
      | (go_at_call 9; refine (impl_Held _ _ _ _ _ _ _ _ ?_ ?_).mono ?_; (focus (first | with_reducible exact HS.out | with_reducible exact HS'.out | with_reducible exact nil_size)); (focus (first | with_reducible exact HS.out | with_reducible exact HS'.out | with_reducible exact nil_size)); rintro e wr2 ⟨rfl, hb⟩; (first | rw [K8, N8] | rw [K11, N11]); obtain ⟨hk, hz⟩ := bframe (B := w2.heap.size + 1) (X := (w2.alloc (.cells #[.int .i64 (4), .int .i64 (E), .string ⟨#[]⟩] 25))) (by go_grown) (by go_size) hb; have hC := fun b o h => hk.cell (p := ⟨b, o, none⟩) h; clear hb))
    all_goals go_wp2_with fail
    all_goals go_ret
    all_goals exact ⟨rfl, chX HK2.out (by go_grown)⟩
  · have x1 : x ≤ 1 := by omega
    have y1 : y ≤ 1 := by omega
    have z1 : z ≤ 1 := by omega
    have u1 : IntKind.i64.wrap (x + y) = x + y := by rw [IntKind.wrap_i64]; omega
    have u2 : IntKind.i64.wrap (x + y + z) = 1 := by rw [IntKind.wrap_i64]; omega
    have u3 : IntKind.i64.wrap (1 - x) = 1 - x := by rw [IntKind.wrap_i64]; omega
    have u4 : IntKind.i64.wrap (1 - y) = 1 - y := by rw [IntKind.wrap_i64]; omega
    have u5 : IntKind.i64.wrap (1 - z) = 1 - z := by rw [IntKind.wrap_i64]; omega
    go_region_held3 (fun w' => (∀ bq oq, bq < w1.heap.size + 2 → w'.cell? ⟨bq, oq, none⟩ = ((w1.alloc (.cells #[.int .i64 (k), .int .i64 (n), .string s] 25)).alloc (.cells #[.int .i64 (k'), .int .i64 (n'), .string s'] 25)).cell? ⟨bq, oq, none⟩) ∧ w1.heap.size + 2 ≤ w'.heap.size ∧ Below (w1.heap.size + 2) ((w1.alloc (.cells #[.int .i64 (k), .int .i64 (n), .string s] 25)).alloc (.cells #[.int .i64 (k'), .int .i64 (n'), .string s'] 25)) w')
      (exact sc_of (by go_size) (by go_grown))
      (first
      | (go_at_call 9; refine (impl_Held _ _ _ _ _ _ _ _ ?_ ?_).mono ?_; (focus (first | with_reducible exact HS.out | with_reducible exact HS'.out | with_reducible exact nil_size)); (focus (first | with_reducible exact HS.out | with_reducible exact HS'.out | with_reducible exact nil_size)); rintro e wr1 ⟨rfl, hb⟩; obtain ⟨hk, hz⟩ := bframe (B := w1.heap.size + 2) (X := ((w1.alloc (.cells #[.int .i64 (k), .int .i64 (n), .string s] 25)).alloc (.cells #[.int .i64 (k'), .int .i64 (n'), .string s'] 25))) (by go_grown) (by go_size) hb; have hC := fun b o h => hk.cell (p := ⟨b, o, none⟩) h; clear hb)
      | (go_at_call 10; refine (spec_Held _ _ _ _ _ _ _ _ ?_ ?_).mono ?_; (focus (first | with_reducible exact HS.out | with_reducible exact HS'.out | with_reducible exact nil_size)); (focus (first | with_reducible exact HS.out | with_reducible exact HS'.out | with_reducible exact nil_size)); rintro e wr1 ⟨rfl, hb⟩; obtain ⟨hk, hz⟩ := bframe (B := w1.heap.size + 2) (X := ((w1.alloc (.cells #[.int .i64 (k), .int .i64 (n), .string s] 25)).alloc (.cells #[.int .i64 (k'), .int .i64 (n'), .string s'] 25))) (by go_grown) (by go_size) hb; have hC := fun b o h => hk.cell (p := ⟨b, o, none⟩) h; clear hb))
    go_wp2_with fail
    refine (impl_Held 6 k n s k' n' s' _ HS.out HS'.out).mono ?_
    rintro e w2 ⟨rfl, hb⟩
    rw [K6, N6]
    obtain ⟨hk, hz⟩ := bframe (B := w1.heap.size + 2) (X := ((w1.alloc (.cells #[.int .i64 (k), .int .i64 (n), .string s] 25)).alloc (.cells #[.int .i64 (k'), .int .i64 (n'), .string s'] 25))) (by go_grown) (by go_size) hb
    clear hb
    obtain ⟨a0, a1, a2, la⟩ := carryXa hk hz
    obtain ⟨b0, b1, b2, lb⟩ := carryXb hk hz
    have HK2 : Hid (Below w.heap.size w w2) := chX2 HK1.out hk
    clear hk hz
    go_wp2_with fail
    refine (impl_Held 8 k n s k' n' s' _ HS.out HS'.out).mono ?_
    rintro e w3 ⟨rfl, hb⟩
    rw [K8, N8]
    obtain ⟨hk, hz⟩ := bframe (B := w2.heap.size + 1) (X := (w2.alloc (.cells #[.int .i64 (3), .int .i64 (x), .string ⟨#[]⟩] 25))) (by go_grown) (by go_size) hb
    clear hb
    obtain ⟨a0, a1, a2, la⟩ := carryX1 hk hz a0 a1 a2
    obtain ⟨b0, b1, b2, lb⟩ := carryX1 hk hz b0 b1 b2
    obtain ⟨e_0, e_1, e_2, le_⟩ := carryXN hk hz
    have HK3 : Hid (Below w.heap.size w w3) := chX HK2.out hk
    clear hk hz
    go_wp2_with fail
    refine (impl_Held 10 k n s k' n' s' _ HS.out HS'.out).mono ?_
    rintro e w4 ⟨rfl, hb⟩
    rw [K10, N10]
    obtain ⟨hk, hz⟩ := bframe (B := w3.heap.size + 1) (X := (w3.alloc (.cells #[.int .i64 (3), .int .i64 (y), .string ⟨#[]⟩] 25))) (by go_grown) (by go_size) hb
    clear hb
    obtain ⟨a0, a1, a2, la⟩ := carryX1 hk hz a0 a1 a2
    obtain ⟨b0, b1, b2, lb⟩ := carryX1 hk hz b0 b1 b2
    obtain ⟨e_0, e_1, e_2, le_⟩ := carryX1 hk hz e_0 e_1 e_2
    obtain ⟨l_0, l_1, l_2, ll_⟩ := carryXN hk hz
    have HK4 : Hid (Below w.heap.size w w4) := chX HK3.out hk
    clear hk hz
    go_wp2_with fail
    go_region_held3 (fun w' => (∀ bq oq, bq < w4.heap.size + 1 → w'.cell? ⟨bq, oq, none⟩ = (w4.alloc (.cells #[.int .i64 (3), .int .i64 (z), .string ⟨#[]⟩] 25)).cell? ⟨bq, oq, none⟩) ∧ w4.heap.size + 1 ≤ w'.heap.size ∧ Below (w4.heap.size + 1) (w4.alloc (.cells #[.int .i64 (3), .int .i64 (z), .string ⟨#[]⟩] 25)) w')
      (exact sc_of (by go_size) (by go_grown))
      (first
      | (go_at_call 9; refine (impl_Held _ _ _ _ _ _ _ _ ?_ ?_).mono ?_; (focus (first | with_reducible exact HS.out | with_reducible exact HS'.out | with_reducible exact nil_size)); (focus (first | with_reducible exact HS.out | with_reducible exact HS'.out | with_reducible exact nil_size)); rintro e wr2 ⟨rfl, hb⟩; (first | rw [N7] | rw [N9] | rw [N11] | rw [M8, L8]); obtain ⟨hk, hz⟩ := bframe (B := w4.heap.size + 1) (X := (w4.alloc (.cells #[.int .i64 (3), .int .i64 (z), .string ⟨#[]⟩] 25))) (by go_grown) (by go_size) hb; have hC := fun b o h => hk.cell (p := ⟨b, o, none⟩) h; clear hb))
    all_goals go_wp2_with fail
    all_goals go_ret
    all_goals exact ⟨rfl, chX HK4.out (by go_grown)⟩
end Go.Proofs.Ythagnaeemipnlaa
