import Derived.Test.YtagmmlipaihilaaCellsA
namespace Go.Proofs.Ytagmmlipaihilaa
open Go.RowKit

def mx (a b : Int) : Int := if a < b then b else a
def mn (a b : Int) : Int := if b < a then b else a
theorem mx_eq : ∀ x y : Int, (if x < y then y else x) = mx x y := fun _ _ => rfl
theorem mn_eq : ∀ x y : Int, (if y < x then y else x) = mn x y := fun _ _ => rfl
def comOk (a b c d a' b' c' d' : Int) : Bool := areaOkB a b c d && areaOkB a' b' c' d' && areaOkB (mx a a') (mx b b') (mn c c') (mn d d')
def sel (ok : Bool) (x : Int) : Int := if ok then x else 0
theorem sel_true (x : Int) : sel true x = x := rfl
theorem sel_false (x : Int) : sel false x = 0 := rfl

def comV (a b c d a' b' c' d' : Int) : Value := .tuple #[.agg #[.int .i64 (sel (comOk a b c d a' b' c' d') (mx a a')), .int .i64 (sel (comOk a b c d a' b' c' d') (mx b b')), .int .i64 (sel (comOk a b c d a' b' c' d') (mn c c')), .int .i64 (sel (comOk a b c d a' b' c' d') (mn d d'))], .bool (comOk a b c d a' b' c' d')]

theorem comV_no (a b c d a' b' c' d' : Int) (h : comOk a b c d a' b' c' d' = false) : comV a b c d a' b' c' d' = .tuple #[.agg #[.int .i64 0, .int .i64 0, .int .i64 0, .int .i64 0], .bool false] := by
  simp [comV, h, sel]
theorem comV_yes (a b c d a' b' c' d' : Int) (h : comOk a b c d a' b' c' d' = true) : comV a b c d a' b' c' d' = .tuple #[.agg #[.int .i64 (mx a a'), .int .i64 (mx b b'), .int .i64 (mn c c'), .int .i64 (mn d d')], .bool true] := by
  simp [comV, h, sel]


set_option maxHeartbeats 1000000 in
theorem impl_Common (a b c d a' b' c' d' : Int) (w : World) : Calls Try.prog 13 #[.agg #[.int .i64 a, .int .i64 b, .int .i64 c, .int .i64 d], .agg #[.int .i64 a', .int .i64 b', .int .i64 c', .int .i64 d']] w fun e w' =>
    e = .returned (comV a b c d a' b' c' d') ∧ Below w.heap.size w w' := by
  have m1 := mx_eq
  have m2 := mn_eq
  go_enter Try.func13, Try.ntmps13
  go_wp2_with (first
    | (go_at_call 17; refine (impl_AreaOk _ _ _ _ _).mono ?_; rintro e w1 ⟨rfl, hb⟩; obtain ⟨hc, hf, hC, hF, hz, hk, l0, l1, l2⟩ := bk3 (w := w) (by go_grown) (by go_size) hb; clear hb))
  all_goals
    first
      | refine bodyPost_ret (v := comV a b c d a' b' c' d') ?_ rfl ⟨rfl, by go_grown⟩
        rw [comV_no _ _ _ _ _ _ _ _ (by simp_all [comOk])]
        simp [results, Try.results13, go_sem, *]
        done
      | refine bodyPost_ret (v := comV a b c d a' b' c' d') ?_ rfl ⟨rfl, by go_grown⟩
        rw [comV_yes _ _ _ _ _ _ _ _ (by simp_all [comOk])]
        simp [results, Try.results13, go_sem, *]
        done

set_option maxHeartbeats 1000000 in
theorem spec_Common (a b c d a' b' c' d' : Int) (w : World) : Calls Try.prog 14 #[.agg #[.int .i64 a, .int .i64 b, .int .i64 c, .int .i64 d], .agg #[.int .i64 a', .int .i64 b', .int .i64 c', .int .i64 d']] w fun e w' =>
    e = .returned (comV a b c d a' b' c' d') ∧ Below w.heap.size w w' := by
  have m1 := mx_eq
  have m2 := mn_eq
  go_enter Try.func14, Try.ntmps14
  go_wp2_with (first
    | (go_at_call 18; refine (spec_AreaOk _ _ _ _ _).mono ?_; rintro e w1 ⟨rfl, hb⟩; obtain ⟨hc, hf, hC, hF, hz, hk, l0, l1, l2, l3⟩ := bk4 (w := w) (by go_grown) (by go_size) hb; clear hb))
  all_goals
    first
      | refine bodyPost_ret (v := comV a b c d a' b' c' d') ?_ rfl ⟨rfl, by go_grown⟩
        rw [comV_no _ _ _ _ _ _ _ _ (by simp_all [comOk])]
        simp [results, Try.results14, go_sem, *]
        done
      | refine bodyPost_ret (v := comV a b c d a' b' c' d') ?_ rfl ⟨rfl, by go_grown⟩
        rw [comV_yes _ _ _ _ _ _ _ _ (by simp_all [comOk])]
        simp [results, Try.results14, go_sem, *]
        done

set_option maxHeartbeats 400000 in
theorem laws_eqArea (a b c d a' b' c' d' : Int) (w : World) : Calls Try.prog 31 #[.agg #[.int .i64 a, .int .i64 b, .int .i64 c, .int .i64 d], .agg #[.int .i64 a', .int .i64 b', .int .i64 c', .int .i64 d']] w fun e w' =>
    e = .returned (.bool (decide (a = a' ∧ b = b' ∧ c = c' ∧ d = d'))) ∧ Below w.heap.size w w' := by
  go_enter Try.func31, Try.ntmps31
  go_wp2
  all_goals
    go_ret
    refine ⟨ret_bool ?_, by go_grown⟩
    simp_all
    try omega

set_option maxHeartbeats 400000 in
theorem law_FnExactAreaOk (a b c d : Int) (w : World) : Calls Try.prog 7 #[.agg #[.int .i64 a, .int .i64 b, .int .i64 c, .int .i64 d]] w fun e w' =>
    e = .returned (.bool true) ∧ Below w.heap.size w w' := by
  go_enter Try.func7, Try.ntmps7
  go_wp2_with (first
    | (go_at_call 27; refine (laws_toArea _ _ _ _ _).mono ?_; rintro e w1 ⟨rfl, hb⟩; obtain ⟨hc, hf, hC, hF, hz, hk, l0⟩ := bk1 (w := w) (by go_grown) (by go_size) hb; clear hb)
    | (go_at_call 18; refine (spec_AreaOk _ _ _ _ _).mono ?_; rintro e w1 ⟨rfl, hb⟩; obtain ⟨hc, hf, hC, hF, hz, hk, l0⟩ := bk1 (w := w) (by go_grown) (by go_size) hb; clear hb)
    | (go_at_call 17; refine (impl_AreaOk _ _ _ _ _).mono ?_; rintro e w1 ⟨rfl, hb⟩; obtain ⟨hc, hf, hC, hF, hz, hk, l0⟩ := bk1 (w := w) (by go_grown) (by go_size) hb; clear hb))
  all_goals
    go_ret
    exact ⟨rfl, by go_grown⟩
end Go.Proofs.Ytagmmlipaihilaa
