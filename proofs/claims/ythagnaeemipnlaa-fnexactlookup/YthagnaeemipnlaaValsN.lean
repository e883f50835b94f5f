import Derived.Test.YthagnaeemipnlaaValsA
import Derived.Deep.RegionHeld3
namespace Go.Proofs.Ythagnaeemipnlaa
open Go.RowKit

def sgn (a b : Int) : Int := if a < b then -1 else if b < a then 1 else 0
def cS (s t : ByteArray) : Int := if Op.bytesLess s.toList t.toList then -1 else if s.toList == t.toList then 0 else 1
def or3 (x y z : Int) : Int := if x = 0 then (if y = 0 then z else y) else x

set_option maxHeartbeats 400000 in
theorem cmp_int (a b : Int) (w : World) : Calls Try.prog 53 #[.int .i64 a, .int .i64 b] w fun e w' =>
    e = .returned (.int .i64 (sgn a b)) ∧ w' = w := by
  go_enter Try.func53, Try.ntmps53
  go_wp2
  all_goals
    go_ret
    refine ⟨ret_int ?_, rfl⟩
    unfold sgn
    (repeat split) <;> omega

set_option maxHeartbeats 400000 in
theorem cmp_str (s t : ByteArray) (w : World) : Calls Try.prog 54 #[.string s, .string t] w fun e w' =>
    e = .returned (.int .i64 (cS s t)) ∧ w' = w := by
  cases hl : Op.bytesLess s.toList t.toList
  · cases he : (s.toList == t.toList)
    · go_enter Try.func54, Try.ntmps54
      go_wp2
      all_goals
        go_ret
        exact ⟨ret_int (by simp [cS, hl, he]), rfl⟩
    · go_enter Try.func54, Try.ntmps54
      go_wp2
      all_goals
        go_ret
        exact ⟨ret_int (by simp [cS, hl, he]), rfl⟩
  · go_enter Try.func54, Try.ntmps54
    go_wp2
    all_goals
      go_ret
      exact ⟨ret_int (by simp [cS, hl]), rfl⟩

set_option maxHeartbeats 400000 in
theorem cmp_or (x y z : Int) (b : Nat) (w : World) (c0 : w.cell? ⟨b, 0, none⟩ = some (.int .i64 x)) (c1 : w.cell? ⟨b, 1, none⟩ = some (.int .i64 y)) (c2 : w.cell? ⟨b, 2, none⟩ = some (.int .i64 z)) :
    Calls Try.prog 52 #[.slice (some ⟨b, 0, none⟩) 3 3] w fun e w' => e = .returned (.int .i64 (or3 x y z)) ∧ w' = w := by
  by_cases hx : x = 0
  · subst hx
    by_cases hy : y = 0
    · subst hy
      by_cases hz : z = 0
      · subst hz
        go_enter Try.func52, Try.ntmps52
        go_wp2
        refine wp_loop_rounds 4 ?_
        rw [rounds_succ]
        go_wp2
        rw [rounds_succ]
        go_wp2
        rw [rounds_succ]
        go_wp2
        rw [rounds_succ]
        go_wp2
        go_ret
        exact ⟨rfl, rfl⟩
      · have hq : (z != 0) = true := by simpa using hz
        go_enter Try.func52, Try.ntmps52
        go_wp2
        refine wp_loop_rounds 4 ?_
        rw [rounds_succ]
        go_wp2
        rw [rounds_succ]
        go_wp2
        rw [rounds_succ]
        go_wp2
        go_ret
        exact ⟨rfl, rfl⟩
    · have hq : (y != 0) = true := by simpa using hy
      go_enter Try.func52, Try.ntmps52
      go_wp2
      refine wp_loop_rounds 4 ?_
      rw [rounds_succ]
      go_wp2
      rw [rounds_succ]
      go_wp2
      go_ret
      exact ⟨ret_int (by simp [or3, hy]), rfl⟩
  · have hq : (x != 0) = true := by simpa using hx
    go_enter Try.func52, Try.ntmps52
    go_wp2
    refine wp_loop_rounds 4 ?_
    rw [rounds_succ]
    go_wp2
    go_ret
    exact ⟨ret_int (by simp [or3, hx]), rfl⟩

def ordV (k n : Int) (s : ByteArray) (k' n' : Int) (s' : ByteArray) : Int := or3 (sgn k k') (sgn n n') (cS s s')

set_option maxHeartbeats 1000000 in
theorem impl_Order (k n : Int) (s : ByteArray) (k' n' : Int) (s' : ByteArray) (w : World) : Calls Try.prog 30 #[.agg #[.int .i64 k, .int .i64 n, .string s], .agg #[.int .i64 k', .int .i64 n', .string s']] w fun e w' =>
    e = .returned (.int .i64 (ordV k n s k' n' s')) ∧ Below w.heap.size w w' := by
  go_enter Try.func30, Try.ntmps30
  go_wp2_with fail
  go_region_held3 (fun w' => (∀ bq oq, bq < w.heap.size + 2 → w'.cell? ⟨bq, oq, none⟩ = ((w.alloc (.cells #[.int .i64 k, .int .i64 n, .string s] 25)).alloc (.cells #[.int .i64 k', .int .i64 n', .string s'] 25)).cell? ⟨bq, oq, none⟩) ∧ w.heap.size + 2 ≤ w'.heap.size ∧ Below (w.heap.size + 2) ((w.alloc (.cells #[.int .i64 k, .int .i64 n, .string s] 25)).alloc (.cells #[.int .i64 k', .int .i64 n', .string s'] 25)) w')
    (exact sc_of (by go_size) (by go_grown))
    (first
    | (go_at_call 53; refine (cmp_int _ _ _).mono ?_; rintro e w1 ⟨rfl, rfl⟩)
    | (go_at_call 54; refine (cmp_str _ _ _).mono ?_; rintro e w1 ⟨rfl, rfl⟩)
    | (go_at_call 52; refine (cmp_or (sgn k k') (sgn n n') (cS s s') _ _ ?_ ?_ ?_).mono ?_; (focus (go_simp; done)); (focus (go_simp; done)); (focus (go_simp; done)); rintro e w1 ⟨rfl, rfl⟩))
  all_goals go_wp2_with fail
  all_goals
    go_ret
    exact ⟨rfl, bfin (n := 2) (X := ((w.alloc (.cells #[.int .i64 k, .int .i64 n, .string s] 25)).alloc (.cells #[.int .i64 k', .int .i64 n', .string s'] 25))) (by go_grown) (by go_grown)⟩

set_option maxHeartbeats 400000 in
theorem spec_l2Sign (a b : Bool) (w : World) : Calls Try.prog 56 #[.bool a, .bool b] w fun e w' =>
    e = .returned (.int .i64 (if a then -1 else if b then 1 else 0)) ∧ w' = w := by
  cases a <;> cases b
  all_goals
    go_enter Try.func56, Try.ntmps56
    go_wp2
    go_ret
    exact ⟨rfl, rfl⟩

theorem sgn_ne {a b : Int} (h : ¬ a = b) : sgn a b = (if decide (a < b) then -1 else if true then 1 else 0) ∧ ¬ sgn a b = 0 := by
  unfold sgn
  by_cases h1 : a < b
  · simp [h1]
  · have h2 : b < a := by omega
    simp [h1, h2]
theorem sgn_self (a : Int) : sgn a a = 0 := by unfold sgn; simp

set_option maxHeartbeats 1000000 in
theorem spec_Order (k n : Int) (s : ByteArray) (k' n' : Int) (s' : ByteArray) (w : World) : Calls Try.prog 35 #[.agg #[.int .i64 k, .int .i64 n, .string s], .agg #[.int .i64 k', .int .i64 n', .string s']] w fun e w' =>
    e = .returned (.int .i64 (ordV k n s k' n' s')) ∧ Below w.heap.size w w' := by
  by_cases hk : k = k'
  · subst hk
    by_cases hn : n = n'
    · subst hn
      have HO : Hid (ordV k n s k n s' = (if Op.bytesLess s.toList s'.toList then -1 else if !Op.bytesLess s.toList s'.toList && !(s.toList == s'.toList) then 1 else 0)) := by
        show ordV _ _ _ _ _ _ = _
        unfold ordV or3 cS
        rw [sgn_self, sgn_self]
        cases Op.bytesLess s.toList s'.toList <;> cases (s.toList == s'.toList) <;> rfl
      go_enter Try.func35, Try.ntmps35
      go_wp2_with (first
        | (go_at_call 56; refine (spec_l2Sign _ _ _).mono ?_; rintro e w1 ⟨rfl, rfl⟩; rw [← HO.out]))
      all_goals
        go_ret
        exact ⟨rfl, by go_grown⟩
    · have hq : (n != n') = true := by simpa using hn
      have HO : Hid (ordV k n s k n' s' = (if decide (n < n') then -1 else if true then 1 else 0)) := by
        show ordV _ _ _ _ _ _ = _
        unfold ordV or3
        rw [sgn_self, if_pos rfl, if_neg (sgn_ne hn).2, (sgn_ne hn).1]
      go_enter Try.func35, Try.ntmps35
      go_wp2_with (first
        | (go_at_call 56; refine (spec_l2Sign _ _ _).mono ?_; rintro e w1 ⟨rfl, rfl⟩; rw [← HO.out]))
      all_goals
        go_ret
        exact ⟨rfl, by go_grown⟩
  · have hq : (k != k') = true := by simpa using hk
    have HO : Hid (ordV k n s k' n' s' = (if decide (k < k') then -1 else if true then 1 else 0)) := by
      show ordV _ _ _ _ _ _ = _
      unfold ordV or3
      rw [if_neg (sgn_ne hk).2, (sgn_ne hk).1]
    go_enter Try.func35, Try.ntmps35
    go_wp2_with (first
      | (go_at_call 56; refine (spec_l2Sign _ _ _).mono ?_; rintro e w1 ⟨rfl, rfl⟩; rw [← HO.out]))
    all_goals
      go_ret
      exact ⟨rfl, by go_grown⟩
end Go.Proofs.Ythagnaeemipnlaa
