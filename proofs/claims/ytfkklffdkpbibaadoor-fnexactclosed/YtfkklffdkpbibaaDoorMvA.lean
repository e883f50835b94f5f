import Derived.Test.YtfkklffdkpbibaaDoorFnC
namespace Go.Proofs.YtfkklffdkpbibaaDoor
open Go.RowKit
set_option linter.unusedSimpArgs false

/-- A place moved, as far as it is not fixed. -/
def mvI (fix : Bool) (n d : Int) : Int := if fix = true then n else n + d
/-- What a row becomes where rows are opened. -/
def opI (n row many : Int) : Int := if row ≤ n then n + many else n
/-- What a row becomes where rows are closed. -/
def clI (n row many other : Int) : Int := if row + many ≤ n then n - many else if row ≤ n then other else n

theorem infoPl : (Tryd.prog.info? 51).map (fun i => (i.zero, i.size, i.bytes)) = some (some (.agg #[.int .i64 0, .int .i64 0, .bool false, .bool false]), 4, 24) := by kernel_rfl

set_option maxHeartbeats 1000000 in
theorem impl_isWithin (n m : Int) (w : World) (hm : 0 ≤ m) (hm' : m ≤ 1000) : Calls Tryd.prog 43 #[.int .i64 n, .int .i64 m] w fun e w' =>
    e = .returned (.bool (decide (-m ≤ n ∧ n ≤ m))) ∧ Below w.heap.size w w' := by
  go_enter Tryd.func43, Tryd.ntmps43
  go_wp2
  all_goals
    go_ret
    refine ⟨ret_bool ?_, by go_grown⟩
    rw [Bool.eq_iff_iff]
    simp
    try omega

set_option maxHeartbeats 1000000 in
theorem impl_isRow (n : Int) (w : World) : Calls Tryd.prog 50 #[.int .i64 n] w fun e w' =>
    e = .returned (.bool (decide (1 ≤ n ∧ n ≤ 99))) ∧ Below w.heap.size w w' := by
  go_enter Tryd.func50, Tryd.ntmps50
  go_wp2
  all_goals
    go_ret
    refine ⟨ret_bool ?_, by go_grown⟩
    rw [Bool.eq_iff_iff]
    simp
    try omega

set_option maxHeartbeats 1000000 in
theorem impl_movedBy (c r : Int) (x y : Bool) (d e : Int) (w : World) (hc : -1000 ≤ c ∧ c ≤ 1000) (hr : -1000 ≤ r ∧ r ≤ 1000) (hd : -1000 ≤ d ∧ d ≤ 1000) (he : -1000 ≤ e ∧ e ≤ 1000) :
    Calls Tryd.prog 46 #[.agg #[.int .i64 c, .int .i64 r, .bool x, .bool y], .int .i64 d, .int .i64 e] w fun z w' =>
    z = .returned (.agg #[.int .i64 (mvI x c d), .int .i64 (mvI y r e), .bool x, .bool y]) ∧ Below w.heap.size w w' := by
  cases x <;> cases y <;>
  · go_enter Tryd.func46, Tryd.ntmps46
    go_wp2
    go_returns
    exact ⟨rfl, by go_grown⟩

set_option maxHeartbeats 1000000 in
theorem spec_l4Shift (c r : Int) (x y : Bool) (d e : Int) (w : World) (hc : -1000 ≤ c ∧ c ≤ 1000) (hr : -1000 ≤ r ∧ r ≤ 1000) (hd : -1000 ≤ d ∧ d ≤ 1000) (he : -1000 ≤ e ∧ e ≤ 1000) :
    Calls Tryd.prog 41 #[.agg #[.int .i64 c, .int .i64 r, .bool x, .bool y], .int .i64 d, .int .i64 e] w fun z w' =>
    z = .returned (.agg #[.int .i64 (mvI x c d), .int .i64 (mvI y r e), .bool x, .bool y]) ∧ Below w.heap.size w w' := by
  cases x <;> cases y <;>
  · go_enter Tryd.func41, Tryd.ntmps41
    go_wp2
    go_returns
    exact ⟨rfl, by go_grown⟩

theorem opI_yes {n row many : Int} (h : row ≤ n) : opI n row many = n + many := by unfold opI; rw [if_pos h]
theorem opI_no {n row many : Int} (h : ¬ row ≤ n) : opI n row many = n := by unfold opI; rw [if_neg h]
theorem clI_far {n row many o : Int} (h : row + many ≤ n) : clI n row many o = n - many := by unfold clI; rw [if_pos h]
theorem clI_in {n row many o : Int} (h : ¬ row + many ≤ n) (h' : row ≤ n) : clI n row many o = o := by unfold clI; rw [if_neg h, if_pos h']
theorem clI_no {n row many o : Int} (h : ¬ row + many ≤ n) (h' : ¬ row ≤ n) : clI n row many o = n := by unfold clI; rw [if_neg h, if_neg h']

set_option maxHeartbeats 1000000 in
theorem impl_opened (c r : Int) (x y : Bool) (row many : Int) (w : World) (hr : -1000 ≤ r ∧ r ≤ 1000) (hm : -1000 ≤ many ∧ many ≤ 1000) :
    Calls Tryd.prog 52 #[.agg #[.int .i64 c, .int .i64 r, .bool x, .bool y], .int .i64 row, .int .i64 many] w fun z w' =>
    z = .returned (.agg #[.int .i64 c, .int .i64 (opI r row many), .bool x, .bool y]) ∧ Below w.heap.size w w' := by
  by_cases h : row ≤ r
  · rw [opI_yes h]
    go_enter Tryd.func52, Tryd.ntmps52
    go_wp2
    go_returns
    exact ⟨rfl, by go_grown⟩
  · rw [opI_no h]
    go_enter Tryd.func52, Tryd.ntmps52
    go_wp2
    go_returns
    exact ⟨rfl, by go_grown⟩

set_option maxHeartbeats 1000000 in
theorem impl_closed (c r : Int) (x y : Bool) (row many other : Int) (w : World) (hr : -1000 ≤ r ∧ r ≤ 1000) (hm : -1000 ≤ many ∧ many ≤ 1000) (hw : -1000 ≤ row ∧ row ≤ 1000) :
    Calls Tryd.prog 54 #[.agg #[.int .i64 c, .int .i64 r, .bool x, .bool y], .int .i64 row, .int .i64 many, .int .i64 other] w fun z w' =>
    z = .returned (.agg #[.int .i64 c, .int .i64 (clI r row many other), .bool x, .bool y]) ∧ Below w.heap.size w w' := by
  by_cases h : row + many ≤ r
  · rw [clI_far h]
    go_enter Tryd.func54, Tryd.ntmps54
    go_wp2
    go_returns
    exact ⟨rfl, by go_grown⟩
  by_cases h' : row ≤ r
  · rw [clI_in h h']
    go_enter Tryd.func54, Tryd.ntmps54
    go_wp2
    go_returns
    exact ⟨rfl, by go_grown⟩
  · rw [clI_no h h']
    go_enter Tryd.func54, Tryd.ntmps54
    go_wp2
    go_returns
    exact ⟨rfl, by go_grown⟩

set_option maxHeartbeats 1000000 in
theorem spec_l4Row_open (n row many other : Int) (w : World) (hr : -1000 ≤ n ∧ n ≤ 1000) (hm : -1000 ≤ many ∧ many ≤ 1000) :
    Calls Tryd.prog 76 #[.int .i64 n, .int .i64 row, .int .i64 many, .bool false, .int .i64 other] w fun z w' =>
    z = .returned (.int .i64 (opI n row many)) ∧ Below w.heap.size w w' := by
  by_cases h : row ≤ n
  · rw [opI_yes h]
    have h' : ¬ n < row := by omega
    go_enter Tryd.func76, Tryd.ntmps76
    go_wp2
    go_returns
    exact ⟨rfl, by go_grown⟩
  · rw [opI_no h]
    have h' : n < row := by omega
    go_enter Tryd.func76, Tryd.ntmps76
    go_wp2
    go_returns
    exact ⟨rfl, by go_grown⟩

set_option maxHeartbeats 1000000 in
theorem spec_l4Row_close (n row many other : Int) (w : World) (hr : -1000 ≤ n ∧ n ≤ 1000) (hm : 0 ≤ many ∧ many ≤ 1000) (hw : -1000 ≤ row ∧ row ≤ 1000) :
    Calls Tryd.prog 76 #[.int .i64 n, .int .i64 row, .int .i64 many, .bool true, .int .i64 other] w fun z w' =>
    z = .returned (.int .i64 (clI n row many other)) ∧ Below w.heap.size w w' := by
  by_cases h : n < row
  · rw [clI_no (by omega) (by omega)]
    go_enter Tryd.func76, Tryd.ntmps76
    go_wp2
    go_returns
    exact ⟨rfl, by go_grown⟩
  by_cases h' : n < row + many
  · rw [clI_in (by omega) (by omega)]
    go_enter Tryd.func76, Tryd.ntmps76
    go_wp2
    go_returns
    exact ⟨rfl, by go_grown⟩
  · rw [clI_far (by omega)]
    go_enter Tryd.func76, Tryd.ntmps76
    go_wp2
    go_returns
    exact ⟨rfl, by go_grown⟩

end Go.Proofs.YtfkklffdkpbibaaDoor
