import Derived.Test.YtfkklffdkpbibaaDoorMvA
import Derived.Test.YtfkklffdkpbibaaDoorFnB
import Derived.Deep.RegionHeld3
namespace Go.Proofs.YtfkklffdkpbibaaDoor
open Go.RowKit
set_option linter.unusedSimpArgs false
set_option linter.unusedVariables false

theorem sc2_of {B p q : Nat} {X W : World} {d e : Value} (hs : B ≤ X.heap.size) (hp : p < B) (hq : q < B) (cp : X.cell? ⟨p, 0, none⟩ = some d) (cq : X.cell? ⟨q, 0, none⟩ = some e) (h : Below B X W) :
    W.cell? ⟨p, 0, none⟩ = some d ∧ W.cell? ⟨q, 0, none⟩ = some e ∧ (∀ b o, b < B → W.cell? ⟨b, o, none⟩ = X.cell? ⟨b, o, none⟩) ∧ B ≤ W.heap.size ∧ Below B X W :=
  ⟨(h.cell (p := ⟨p, 0, none⟩) hp).trans cp, (h.cell (p := ⟨q, 0, none⟩) hq).trans cq, fun b o hb => h.cell (p := ⟨b, o, none⟩) hb, Nat.le_trans hs h.size, h⟩

set_option maxHeartbeats 1000000 in
theorem impl_lostNode (w : World) : Calls Tryd.prog 80 #[] w fun e w' =>
    e = .returned (.agg #[.int .i64 1, .int .i64 0, .int .i64 4, .int .i64 3, .string ⟨#[]⟩, .int .i64 0, .int .i64 0, .bool false, .bool false, .int .i64 0, .int .i64 0, .bool false, .bool false, .slice none 0 0]) ∧ Below w.heap.size w w' := by
  obtain ⟨i0, hi, hz0, hz1, hz2⟩ := info_parts infoFn
  go_enter Tryd.func80, Tryd.ntmps80
  go_wp2_with (go_at_call 82; refine (value_failure _ _).mono ?_; rintro e w1 ⟨rfl, hb⟩; obtain ⟨hc, hf, hC, hF, hz, hk, l0⟩ := bk1 (w := w) (by go_grown) (by go_size) hb; clear hb)
  refine bodyPost_ret (v := .agg #[.int .i64 1, .int .i64 0, .int .i64 4, .int .i64 3, .string ⟨#[]⟩, .int .i64 0, .int .i64 0, .bool false, .bool false, .int .i64 0, .int .i64 0, .bool false, .bool false, .slice none 0 0]) ?_ rfl ⟨rfl, by go_grown⟩
  simp (maxDischargeDepth := 9) [results, Tryd.results80, go_sem, *]

set_option maxHeartbeats 1000000 in
theorem spec_l4Lost (w : World) : Calls Tryd.prog 42 #[] w fun e w' =>
    e = .returned (.agg #[.int .i64 1, .int .i64 0, .int .i64 4, .int .i64 3, .string ⟨#[]⟩, .int .i64 0, .int .i64 0, .bool false, .bool false, .int .i64 0, .int .i64 0, .bool false, .bool false, .slice none 0 0]) ∧ Below w.heap.size w w' := by
  obtain ⟨i0, hi, hz0, hz1, hz2⟩ := info_parts infoFn
  go_enter Tryd.func42, Tryd.ntmps42
  go_wp2_with (go_at_call 74; refine (spec_l2Error _ _).mono ?_; rintro e w1 ⟨rfl, hb⟩; obtain ⟨hc, hf, hC, hF, hz, hk, l0⟩ := bk1 (w := w) (by go_grown) (by go_size) hb; clear hb)
  refine bodyPost_ret (v := .agg #[.int .i64 1, .int .i64 0, .int .i64 4, .int .i64 3, .string ⟨#[]⟩, .int .i64 0, .int .i64 0, .bool false, .bool false, .int .i64 0, .int .i64 0, .bool false, .bool false, .slice none 0 0]) ?_ rfl ⟨rfl, by go_grown⟩
  simp (maxDischargeDepth := 9) [results, Tryd.results42, go_sem, *]

set_option maxHeartbeats 4000000 in
theorem impl_MovedBy_1 (c r : Int) (x y : Bool) (c' r' : Int) (x' y' : Bool) (d e : Int) (p q : Nat) (w : World) (hp : p < w.heap.size) (hq : q < w.heap.size) (cp : w.cell? ⟨p, 0, none⟩ = some (.int .i64 d)) (cq : w.cell? ⟨q, 0, none⟩ = some (.int .i64 e)) (hc : -1000 ≤ c ∧ c ≤ 1000) (hr : -1000 ≤ r ∧ r ≤ 1000) (hc1 : -1000 ≤ c' ∧ c' ≤ 1000) (hr1 : -1000 ≤ r' ∧ r' ≤ 1000) (hd : -1000 ≤ d ∧ d ≤ 1000) (he : -1000 ≤ e ∧ e ≤ 1000) :
    Calls Tryd.prog 45 #[.agg #[.int .i64 c, .int .i64 r, .bool x, .bool y], .agg #[.int .i64 c', .int .i64 r', .bool x', .bool y'], .pointer (some ⟨p, 0, none⟩), .pointer (some ⟨q, 0, none⟩)] w fun z w' =>
    z = .returned (.tuple #[.agg #[.int .i64 (mvI x c d), .int .i64 (mvI y r e), .bool x, .bool y], .agg #[.int .i64 (mvI x' c' d), .int .i64 (mvI y' r' e), .bool x', .bool y']]) ∧ Below w.heap.size w w' := by
  have hx : Below w.heap.size w (((w.alloc (.cells #[.int .i64 c, .int .i64 r, .bool x, .bool y] 51)).alloc (.cells #[.int .i64 c', .int .i64 r', .bool x', .bool y'] 51))) := by go_grown
  have HX : Hid (Below w.heap.size w (((w.alloc (.cells #[.int .i64 c, .int .i64 r, .bool x, .bool y] 51)).alloc (.cells #[.int .i64 c', .int .i64 r', .bool x', .bool y'] 51)))) := hx
  clear hx
  have HP : Hid ((((w.alloc (.cells #[.int .i64 c, .int .i64 r, .bool x, .bool y] 51)).alloc (.cells #[.int .i64 c', .int .i64 r', .bool x', .bool y'] 51))).cell? ⟨p, 0, none⟩ = some (.int .i64 d)) := (HX.out.cell (p := ⟨p, 0, none⟩) hp).trans cp
  have HQ : Hid ((((w.alloc (.cells #[.int .i64 c, .int .i64 r, .bool x, .bool y] 51)).alloc (.cells #[.int .i64 c', .int .i64 r', .bool x', .bool y'] 51))).cell? ⟨q, 0, none⟩ = some (.int .i64 e)) := (HX.out.cell (p := ⟨q, 0, none⟩) hq).trans cq
  have hwr : IntKind.i64.wrap (d - 1) = d - 1 := by rw [IntKind.wrap_i64]; omega
  have HPL : Hid (p < w.heap.size + 2) := Nat.lt_of_lt_of_le hp (Nat.le_add_right _ _)
  have HQL : Hid (q < w.heap.size + 2) := Nat.lt_of_lt_of_le hq (Nat.le_add_right _ _)
  go_enter Tryd.func45, Tryd.ntmps45
  go_wp2_with fail
  go_region_held3 (fun w' => w'.cell? ⟨p, 0, none⟩ = some (.int .i64 d) ∧ w'.cell? ⟨q, 0, none⟩ = some (.int .i64 e) ∧ (∀ bq oq, bq < w.heap.size + 2 → w'.cell? ⟨bq, oq, none⟩ = (((w.alloc (.cells #[.int .i64 c, .int .i64 r, .bool x, .bool y] 51)).alloc (.cells #[.int .i64 c', .int .i64 r', .bool x', .bool y'] 51))).cell? ⟨bq, oq, none⟩) ∧ w.heap.size + 2 ≤ w'.heap.size ∧ Below (w.heap.size + 2) (((w.alloc (.cells #[.int .i64 c, .int .i64 r, .bool x, .bool y] 51)).alloc (.cells #[.int .i64 c', .int .i64 r', .bool x', .bool y'] 51))) w')
    (exact sc2_of (by go_size) HPL.out HQL.out HP.out HQ.out (by go_grown))
    (first
    | (go_at_call 46; refine (impl_movedBy _ _ _ _ _ _ _ (by assumption) (by assumption) hd he).mono ?_; rintro e w1 ⟨rfl, hb⟩; obtain ⟨hk, hz⟩ := bframe (B := w.heap.size + 2) (X := (((w.alloc (.cells #[.int .i64 c, .int .i64 r, .bool x, .bool y] 51)).alloc (.cells #[.int .i64 c', .int .i64 r', .bool x', .bool y'] 51)))) (by go_grown) (by go_size) hb; obtain ⟨hC, hF, hL, hE⟩ := kp hb; (try simp only [World.size_drew] at hC hF hL hE); (try (refine cutLt (x := w.heap.size + 1 + 1) ?_ hb.size (fun hq => ?_); (focus (go_size; done)))); (try (refine cutLt (x := w.heap.size + 1 + 1 + 1) ?_ hb.size (fun hq => ?_); (focus (go_size; done)))); clear hb))
  all_goals
    go_wp2_with fail
    refine bodyPost_ret (v := .tuple #[.agg #[.int .i64 (mvI x c d), .int .i64 (mvI y r e), .bool x, .bool y], .agg #[.int .i64 (mvI x' c' d), .int .i64 (mvI y' r' e), .bool x', .bool y']]) ?_ rfl ⟨rfl, bfin (n := 2) HX.out (by go_grown)⟩
    simp (maxDischargeDepth := 9) [results, Tryd.results45, go_sem, *]

set_option maxHeartbeats 4000000 in
theorem impl_Opened_1 (c r : Int) (x y : Bool) (c' r' : Int) (x' y' : Bool) (d e : Int) (p q : Nat) (w : World) (hp : p < w.heap.size) (hq : q < w.heap.size) (cp : w.cell? ⟨p, 0, none⟩ = some (.int .i64 d)) (cq : w.cell? ⟨q, 0, none⟩ = some (.int .i64 e)) (hc : -1000 ≤ c ∧ c ≤ 1000) (hr : -1000 ≤ r ∧ r ≤ 1000) (hc1 : -1000 ≤ c' ∧ c' ≤ 1000) (hr1 : -1000 ≤ r' ∧ r' ≤ 1000) (hd : -1000 ≤ d ∧ d ≤ 1000) (he : -1000 ≤ e ∧ e ≤ 1000) :
    Calls Tryd.prog 51 #[.agg #[.int .i64 c, .int .i64 r, .bool x, .bool y], .agg #[.int .i64 c', .int .i64 r', .bool x', .bool y'], .pointer (some ⟨p, 0, none⟩), .pointer (some ⟨q, 0, none⟩)] w fun z w' =>
    z = .returned (.tuple #[.agg #[.int .i64 c, .int .i64 (opI r d e), .bool x, .bool y], .agg #[.int .i64 c', .int .i64 (opI r' d e), .bool x', .bool y']]) ∧ Below w.heap.size w w' := by
  have hx : Below w.heap.size w (((w.alloc (.cells #[.int .i64 c, .int .i64 r, .bool x, .bool y] 51)).alloc (.cells #[.int .i64 c', .int .i64 r', .bool x', .bool y'] 51))) := by go_grown
  have HX : Hid (Below w.heap.size w (((w.alloc (.cells #[.int .i64 c, .int .i64 r, .bool x, .bool y] 51)).alloc (.cells #[.int .i64 c', .int .i64 r', .bool x', .bool y'] 51)))) := hx
  clear hx
  have HP : Hid ((((w.alloc (.cells #[.int .i64 c, .int .i64 r, .bool x, .bool y] 51)).alloc (.cells #[.int .i64 c', .int .i64 r', .bool x', .bool y'] 51))).cell? ⟨p, 0, none⟩ = some (.int .i64 d)) := (HX.out.cell (p := ⟨p, 0, none⟩) hp).trans cp
  have HQ : Hid ((((w.alloc (.cells #[.int .i64 c, .int .i64 r, .bool x, .bool y] 51)).alloc (.cells #[.int .i64 c', .int .i64 r', .bool x', .bool y'] 51))).cell? ⟨q, 0, none⟩ = some (.int .i64 e)) := (HX.out.cell (p := ⟨q, 0, none⟩) hq).trans cq
  have hwr : IntKind.i64.wrap (d - 1) = d - 1 := by rw [IntKind.wrap_i64]; omega
  have HPL : Hid (p < w.heap.size + 2) := Nat.lt_of_lt_of_le hp (Nat.le_add_right _ _)
  have HQL : Hid (q < w.heap.size + 2) := Nat.lt_of_lt_of_le hq (Nat.le_add_right _ _)
  go_enter Tryd.func51, Tryd.ntmps51
  go_wp2_with fail
  go_region_held3 (fun w' => w'.cell? ⟨p, 0, none⟩ = some (.int .i64 d) ∧ w'.cell? ⟨q, 0, none⟩ = some (.int .i64 e) ∧ (∀ bq oq, bq < w.heap.size + 2 → w'.cell? ⟨bq, oq, none⟩ = (((w.alloc (.cells #[.int .i64 c, .int .i64 r, .bool x, .bool y] 51)).alloc (.cells #[.int .i64 c', .int .i64 r', .bool x', .bool y'] 51))).cell? ⟨bq, oq, none⟩) ∧ w.heap.size + 2 ≤ w'.heap.size ∧ Below (w.heap.size + 2) (((w.alloc (.cells #[.int .i64 c, .int .i64 r, .bool x, .bool y] 51)).alloc (.cells #[.int .i64 c', .int .i64 r', .bool x', .bool y'] 51))) w')
    (exact sc2_of (by go_size) HPL.out HQL.out HP.out HQ.out (by go_grown))
    (first
    | (go_at_call 52; refine (impl_opened _ _ _ _ _ _ _ (by assumption) he).mono ?_; rintro e w1 ⟨rfl, hb⟩; obtain ⟨hk, hz⟩ := bframe (B := w.heap.size + 2) (X := (((w.alloc (.cells #[.int .i64 c, .int .i64 r, .bool x, .bool y] 51)).alloc (.cells #[.int .i64 c', .int .i64 r', .bool x', .bool y'] 51)))) (by go_grown) (by go_size) hb; obtain ⟨hC, hF, hL, hE⟩ := kp hb; (try simp only [World.size_drew] at hC hF hL hE); (try (refine cutLt (x := w.heap.size + 1 + 1) ?_ hb.size (fun hq => ?_); (focus (go_size; done)))); (try (refine cutLt (x := w.heap.size + 1 + 1 + 1) ?_ hb.size (fun hq => ?_); (focus (go_size; done)))); clear hb))
  all_goals
    go_wp2_with fail
    refine bodyPost_ret (v := .tuple #[.agg #[.int .i64 c, .int .i64 (opI r d e), .bool x, .bool y], .agg #[.int .i64 c', .int .i64 (opI r' d e), .bool x', .bool y']]) ?_ rfl ⟨rfl, bfin (n := 2) HX.out (by go_grown)⟩
    simp (maxDischargeDepth := 9) [results, Tryd.results51, go_sem, *]

set_option maxHeartbeats 4000000 in
theorem impl_Closed_1 (c r : Int) (x y : Bool) (c' r' : Int) (x' y' : Bool) (d e : Int) (p q : Nat) (w : World) (hp : p < w.heap.size) (hq : q < w.heap.size) (cp : w.cell? ⟨p, 0, none⟩ = some (.int .i64 d)) (cq : w.cell? ⟨q, 0, none⟩ = some (.int .i64 e)) (hc : -1000 ≤ c ∧ c ≤ 1000) (hr : -1000 ≤ r ∧ r ≤ 1000) (hc1 : -1000 ≤ c' ∧ c' ≤ 1000) (hr1 : -1000 ≤ r' ∧ r' ≤ 1000) (hd : -1000 ≤ d ∧ d ≤ 1000) (he : -1000 ≤ e ∧ e ≤ 1000) :
    Calls Tryd.prog 53 #[.agg #[.int .i64 c, .int .i64 r, .bool x, .bool y], .agg #[.int .i64 c', .int .i64 r', .bool x', .bool y'], .pointer (some ⟨p, 0, none⟩), .pointer (some ⟨q, 0, none⟩)] w fun z w' =>
    z = .returned (.tuple #[.agg #[.int .i64 c, .int .i64 (clI r d e d), .bool x, .bool y], .agg #[.int .i64 c', .int .i64 (clI r' d e (d - 1)), .bool x', .bool y']]) ∧ Below w.heap.size w w' := by
  have hx : Below w.heap.size w (((w.alloc (.cells #[.int .i64 c, .int .i64 r, .bool x, .bool y] 51)).alloc (.cells #[.int .i64 c', .int .i64 r', .bool x', .bool y'] 51))) := by go_grown
  have HX : Hid (Below w.heap.size w (((w.alloc (.cells #[.int .i64 c, .int .i64 r, .bool x, .bool y] 51)).alloc (.cells #[.int .i64 c', .int .i64 r', .bool x', .bool y'] 51)))) := hx
  clear hx
  have HP : Hid ((((w.alloc (.cells #[.int .i64 c, .int .i64 r, .bool x, .bool y] 51)).alloc (.cells #[.int .i64 c', .int .i64 r', .bool x', .bool y'] 51))).cell? ⟨p, 0, none⟩ = some (.int .i64 d)) := (HX.out.cell (p := ⟨p, 0, none⟩) hp).trans cp
  have HQ : Hid ((((w.alloc (.cells #[.int .i64 c, .int .i64 r, .bool x, .bool y] 51)).alloc (.cells #[.int .i64 c', .int .i64 r', .bool x', .bool y'] 51))).cell? ⟨q, 0, none⟩ = some (.int .i64 e)) := (HX.out.cell (p := ⟨q, 0, none⟩) hq).trans cq
  have hwr : IntKind.i64.wrap (d - 1) = d - 1 := by rw [IntKind.wrap_i64]; omega
  have HPL : Hid (p < w.heap.size + 2) := Nat.lt_of_lt_of_le hp (Nat.le_add_right _ _)
  have HQL : Hid (q < w.heap.size + 2) := Nat.lt_of_lt_of_le hq (Nat.le_add_right _ _)
  go_enter Tryd.func53, Tryd.ntmps53
  go_wp2_with fail
  go_region_held3 (fun w' => w'.cell? ⟨p, 0, none⟩ = some (.int .i64 d) ∧ w'.cell? ⟨q, 0, none⟩ = some (.int .i64 e) ∧ (∀ bq oq, bq < w.heap.size + 2 → w'.cell? ⟨bq, oq, none⟩ = (((w.alloc (.cells #[.int .i64 c, .int .i64 r, .bool x, .bool y] 51)).alloc (.cells #[.int .i64 c', .int .i64 r', .bool x', .bool y'] 51))).cell? ⟨bq, oq, none⟩) ∧ w.heap.size + 2 ≤ w'.heap.size ∧ Below (w.heap.size + 2) (((w.alloc (.cells #[.int .i64 c, .int .i64 r, .bool x, .bool y] 51)).alloc (.cells #[.int .i64 c', .int .i64 r', .bool x', .bool y'] 51))) w')
    (exact sc2_of (by go_size) HPL.out HQL.out HP.out HQ.out (by go_grown))
    (first
    | (go_at_call 54; refine (impl_closed _ _ _ _ _ _ _ _ (by assumption) he hd).mono ?_; rintro e w1 ⟨rfl, hb⟩; obtain ⟨hk, hz⟩ := bframe (B := w.heap.size + 2) (X := (((w.alloc (.cells #[.int .i64 c, .int .i64 r, .bool x, .bool y] 51)).alloc (.cells #[.int .i64 c', .int .i64 r', .bool x', .bool y'] 51)))) (by go_grown) (by go_size) hb; obtain ⟨hC, hF, hL, hE⟩ := kp hb; (try simp only [World.size_drew] at hC hF hL hE); (try (refine cutLt (x := w.heap.size + 1 + 1) ?_ hb.size (fun hq => ?_); (focus (go_size; done)))); (try (refine cutLt (x := w.heap.size + 1 + 1 + 1) ?_ hb.size (fun hq => ?_); (focus (go_size; done)))); clear hb))
  all_goals
    go_wp2_with fail
    refine bodyPost_ret (v := .tuple #[.agg #[.int .i64 c, .int .i64 (clI r d e d), .bool x, .bool y], .agg #[.int .i64 c', .int .i64 (clI r' d e (d - 1)), .bool x', .bool y']]) ?_ rfl ⟨rfl, bfin (n := 2) HX.out (by go_grown)⟩
    simp (maxDischargeDepth := 9) [results, Tryd.results53, go_sem, *]

end Go.Proofs.YtfkklffdkpbibaaDoor
