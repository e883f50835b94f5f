import Derived.Test.YthdclafkcondmaaGreatDoorFnA
import Derived.Test.YthdclafkcondmaaGreatDoorGad
namespace Go.Proofs.YthdclafkcondmaaGreatDoor
open Go.RowKit
def areaOkB (a b c d : Int) : Bool := refOkB a b && refOkB c d && decide (a ≤ c ∧ b ≤ d)
/-- A place that is zero; a value that is; a right constant of a formula. -/
def zP (c r : Int) (f g : Bool) : Bool := decide (c = 0) && decide (r = 0) && !f && !g
def zV (k n : Int) (s : ByteArray) : Bool := decide (k = 0) && decide (n = 0) && emp s
def cOk (k n : Int) (s : ByteArray) : Bool := okV k n s && !decide (k = 0) && (!decide (k = 1) || decide (0 ≤ n))
def argsB (o : Int) (n : Nat) : Bool :=
  if o = 5 then decide (2 ≤ n ∧ n ≤ 3) else if 8 ≤ o ∧ o ≤ 10 then decide (n = 1) else if 1 ≤ o ∧ o ≤ 7 then decide (1 ≤ n ∧ n ≤ 10) else false
set_option maxHeartbeats 400000 in
theorem impl_AreaOk (a b c d : Int) (w : World) : Calls Tryz.prog 84 #[.agg #[.int .i64 a, .int .i64 b, .int .i64 c, .int .i64 d]] w fun e w' =>
    e = .returned (.bool (areaOkB a b c d)) ∧ Below w.heap.size w w' := by
  go_enter Tryz.func84, Tryz.ntmps84
  go_wp2_with (first
    | (go_at_call 83; refine (impl_RefOk _ _ _).mono ?_; rintro e w1 ⟨rfl, hb⟩; obtain ⟨hc, hf, hC, hF, hz, hk, l0⟩ := bk1 (w := w) (by go_grown) (by go_size) hb; clear hb))
  all_goals
    go_ret
    refine ⟨ret_bool ?_, by go_grown⟩
    unfold areaOkB
    rw [Bool.eq_iff_iff]
    simp [*]
    try omega
set_option maxHeartbeats 400000 in
theorem spec_AreaOk (a b c d : Int) (w : World) : Calls Tryz.prog 90 #[.agg #[.int .i64 a, .int .i64 b, .int .i64 c, .int .i64 d]] w fun e w' =>
    e = .returned (.bool (areaOkB a b c d)) ∧ Below w.heap.size w w' := by
  go_enter Tryz.func90, Tryz.ntmps90
  go_wp2_with (first
    | (go_at_call 89; refine (spec_RefOk _ _ _).mono ?_; rintro e w1 ⟨rfl, hb⟩; obtain ⟨hc, hf, hC, hF, hz, hk, l0⟩ := bk1 (w := w) (by go_grown) (by go_size) hb; clear hb))
  all_goals
    go_ret
    refine ⟨ret_bool ?_, by go_grown⟩
    unfold areaOkB
    rw [Bool.eq_iff_iff]
    simp [*]
    try omega
set_option maxHeartbeats 1000000 in
theorem impl_constOk (k n : Int) (s : ByteArray) (w : World) (hs : s.size ≤ maxLen) : Calls Tryz.prog 82 #[.agg #[.int .i64 k, .int .i64 n, .string s]] w fun e w' =>
    e = .returned (.bool (cOk k n s)) ∧ Below w.heap.size w w' := by
  cases ho : okV k n s
  · have HO : Hid (okV k n s = false) := ho
    clear ho
    go_enter Tryz.func82, Tryz.ntmps82
    go_wp2_with (go_at_call 129; refine (impl_ValueOk _ _ _ _ hs).mono ?_; rintro e w1 ⟨rfl, hb⟩; rw [HO.out]; obtain ⟨hc, hf, hC, hF, hz, hk, l0⟩ := bk1 (w := w) (by go_grown) (by go_size) hb; clear hb)
    all_goals
      go_ret
      exact ⟨ret_bool (by simp [cOk, HO.out]), by go_grown⟩
  have HO : Hid (okV k n s = true) := ho
  clear ho
  by_cases h0 : k = 0
  · subst h0
    go_enter Tryz.func82, Tryz.ntmps82
    go_wp2_with (go_at_call 129; refine (impl_ValueOk _ _ _ _ hs).mono ?_; rintro e w1 ⟨rfl, hb⟩; rw [HO.out]; obtain ⟨hc, hf, hC, hF, hz, hk, l0⟩ := bk1 (w := w) (by go_grown) (by go_size) hb; clear hb)
    all_goals
      go_ret
      exact ⟨ret_bool (by simp [cOk]), by go_grown⟩
  have e0 : (k != 0) = true := by simpa using h0
  by_cases h1 : k = 1
  · subst h1
    clear e0
    go_enter Tryz.func82, Tryz.ntmps82
    go_wp2_with (go_at_call 129; refine (impl_ValueOk _ _ _ _ hs).mono ?_; rintro e w1 ⟨rfl, hb⟩; rw [HO.out]; obtain ⟨hc, hf, hC, hF, hz, hk, l0⟩ := bk1 (w := w) (by go_grown) (by go_size) hb; clear hb)
    all_goals
      go_ret
      exact ⟨ret_bool (by simp [cOk, HO.out]), by go_grown⟩
  · have e1 : (k != 1) = true := by simpa using h1
    go_enter Tryz.func82, Tryz.ntmps82
    go_wp2_with (go_at_call 129; refine (impl_ValueOk _ _ _ _ hs).mono ?_; rintro e w1 ⟨rfl, hb⟩; rw [HO.out]; obtain ⟨hc, hf, hC, hF, hz, hk, l0⟩ := bk1 (w := w) (by go_grown) (by go_size) hb; clear hb)
    all_goals
      go_ret
      exact ⟨ret_bool (by simp [cOk, HO.out, h0, h1]), by go_grown⟩
set_option maxHeartbeats 1000000 in
theorem impl_areaOf_area (o ck cn : Int) (cs : ByteArray) (ac ar : Int) (af ag : Bool) (bc br : Int) (bf bg : Bool) {KA : Option Addr} {kl kc : Nat} (w : World) :
    Calls Tryz.prog 59 #[.agg #[.int .i64 3, .int .i64 o, .int .i64 ck, .int .i64 cn, .string cs, .int .i64 ac, .int .i64 ar, .bool af, .bool ag, .int .i64 bc, .int .i64 br, .bool bf, .bool bg, .slice KA kl kc]] w fun e w' =>
    e = .returned (.agg #[.int .i64 ac, .int .i64 ar, .int .i64 bc, .int .i64 br]) ∧ Below w.heap.size w w' := by
  go_enter Tryz.func59, Tryz.ntmps59
  go_wp2
  go_returns
  exact ⟨rfl, by go_grown⟩
set_option maxHeartbeats 2000000 in
theorem impl_saysKidsAlone (k o ck cn : Int) (cs : ByteArray) (ac ar : Int) (af ag : Bool) (bc br : Int) (bf bg : Bool) {KA : Option Addr} {kl kc : Nat} (w : World) :
    Calls Tryz.prog 85 #[.agg #[.int .i64 k, .int .i64 o, .int .i64 ck, .int .i64 cn, .string cs, .int .i64 ac, .int .i64 ar, .bool af, .bool ag, .int .i64 bc, .int .i64 br, .bool bf, .bool bg, .slice KA kl kc]] w fun e w' =>
    e = .returned (.bool (zV ck cn cs && zP ac ar af ag && zP bc br bf bg)) ∧ Below w.heap.size w w' := by
  go_enter Tryz.func85, Tryz.ntmps85
  go_wp2
  all_goals
    go_ret
    exact ⟨ret_bool (by simp [zV, zP, emp, *]), by go_grown⟩
end Go.Proofs.YthdclafkcondmaaGreatDoor
