import Derived.Test.YtjcicndioddcmaaDoorDrawQ
import Derived.Test.YtjcicndioddcmaaDoorPlaceE
import Derived.Laws.BytesString
namespace Go.Proofs.YtjcicndioddcmaaDoor
open Go.RowKit
set_option linter.unusedVariables false

set_option maxHeartbeats 1000000 in
theorem draw_placeText (A : Option Addr) (len cap : Nat) (w : World) (h : Cd w A len) : Calls Tryd.prog 15 #[.slice A len cap] w fun e w' =>
    ∃ a b x y, e = .returned (.agg #[.int .i64 a, .int .i64 b, .bool x, .bool y]) ∧ Below w.heap.size w w' := by
  have HH : Hid (Cd w A len) := h
  clear h
  go_enter Tryd.func15, Tryd.ntmps15
  go_wp2_with fail
  refine (spec_l1Open A len cap _).mono ?_
  rintro e w1 ⟨rfl, rfl⟩
  have C0 : Hid (C4 ((w.alloc (.cells #[.int .i64 0, .int .i64 0, .bool false, .bool false] 31)).alloc (.cells #[.slice A len cap, .int .i64 0] 80)) w.heap.size (.int .i64 0) (.int .i64 0) (.bool false) (.bool false)) := (C4.new _ _ _ _ _ _).below (by go_grown)
  go_wp2_with fail
  refine (rd_place (w.heap.size + 1) A len cap _ (HH.out.open (by go_grown) (by simp))).mono ?_
  rintro e w2 ⟨a, b, x, y, rfl, hr, hu⟩
  have HU : Hid (Below w.heap.size w w2) := Below.trans (by go_grown) (hu.2.2.2.mono (by omega))
  obtain ⟨hl0, ⟨c0, c1, c2, c3⟩, f0, f1, f2, f3⟩ := C0.out.upd hu (by omega)
  clear hr hu C0
  have le0 : w.heap.size ≤ w2.heap.size := by omega
  go_wp2_with fail
  refine bodyPost_ret (v := .agg #[.int .i64 a, .int .i64 b, .bool x, .bool y]) ?_ rfl ⟨_, _, _, _, rfl, HU.out.trans (by go_grown)⟩
  simp (maxDischargeDepth := 9) [results, Tryd.results15, go_sem, *]
end Go.Proofs.YtjcicndioddcmaaDoor
