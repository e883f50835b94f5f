import Derived.Test.YtanjlpgdmnapdaaFoF
import Derived.Test.YtanjlpgdmnapdaaDpA
import Derived.WalkSmall
namespace Go.Proofs.Ytanjlpgdmnapdaa
open Go.RowKit Go.Maps
set_option linter.unusedSimpArgs false
set_option linter.unusedVariables false

def noB (s : ByteArray) : Bool := s.toList.isEmpty
set_option maxRecDepth 100000 in
set_option maxHeartbeats 2000000 in
theorem fileOpOf_1 (n t d : ByteArray) (w : World) (hn : n.size ≤ maxLen) (ht : t.size ≤ maxLen) :
    Calls Try.prog 51 #[.agg #[.int .i64 1, .string n, .string t, .string d]] w fun e w' => e = .returned (.tuple #[.iface 123 (.agg #[.string n, .string d]), .bool (nameB n && noB t)]) ∧ Below w.heap.size w w' := by
  have HN : Hid (n.size ≤ maxLen) := hn
  have HT : Hid (t.size ≤ maxLen) := ht
  clear hn ht
  cases hnamen : nameB n
  · have HMn : Hid (nameB n = false) := hnamen
    clear hnamen
    go_enter Try.func51, Try.ntmps51
    go_wp2_with (first
      | (go_at_call 78; refine (impl_isFileName n _ HN.out).mono ?_; rintro e w1 ⟨rfl, rfl⟩; rw [HMn.out]))
    go_quiet (fail)
    go_wp2_with fail
    refine bodyPost_ret (v := .tuple #[.iface 123 (.agg #[.string n, .string d]), .bool false]) ?_ rfl ⟨rfl, below_drewN (by go_grown) _⟩
    simp (maxDischargeDepth := 9) [results, Try.results51, go_sem, *]
  · have HMn : Hid (nameB n = true) := hnamen
    clear hnamen
    cases hnot : noB t
    · have Et : Hid (noB t = false) := hnot
      have et : t.toList.isEmpty = false := hnot
      clear hnot
      go_enter Try.func51, Try.ntmps51
      go_wp2_with (first
        | (go_at_call 78; refine (impl_isFileName n _ HN.out).mono ?_; rintro e w1 ⟨rfl, rfl⟩; rw [HMn.out]))
      go_quiet (fail)
      go_wp2_with fail
      refine bodyPost_ret (v := .tuple #[.iface 123 (.agg #[.string n, .string d]), .bool false]) ?_ rfl ⟨rfl, below_drewN (by go_grown) _⟩
      simp (maxDischargeDepth := 9) [results, Try.results51, go_sem, *]
    · have Et : Hid (noB t = true) := hnot
      have et : t.toList.isEmpty = true := hnot
      clear hnot
      go_enter Try.func51, Try.ntmps51
      go_wp2_with (first
        | (go_at_call 78; refine (impl_isFileName n _ HN.out).mono ?_; rintro e w1 ⟨rfl, rfl⟩; rw [HMn.out]))
      go_quiet (fail)
      go_wp2_with fail
      refine bodyPost_ret (v := .tuple #[.iface 123 (.agg #[.string n, .string d]), .bool true]) ?_ rfl ⟨rfl, below_drewN (by go_grown) _⟩
      simp (maxDischargeDepth := 9) [results, Try.results51, go_sem, *]

set_option maxRecDepth 100000 in
set_option maxHeartbeats 2000000 in
theorem fileOpOf_2 (n t d : ByteArray) (w : World) (hn : n.size ≤ maxLen) (ht : t.size ≤ maxLen) :
    Calls Try.prog 51 #[.agg #[.int .i64 2, .string n, .string t, .string d]] w fun e w' => e = .returned (.tuple #[.iface 125 (.agg #[.string n, .string t]), .bool (nameB n && (nameB t && noB d))]) ∧ Below w.heap.size w w' := by
  have HN : Hid (n.size ≤ maxLen) := hn
  have HT : Hid (t.size ≤ maxLen) := ht
  clear hn ht
  cases hnamen : nameB n
  · have HMn : Hid (nameB n = false) := hnamen
    clear hnamen
    go_enter Try.func51, Try.ntmps51
    go_wp2_with (first
      | (go_at_call 78; refine (impl_isFileName n _ HN.out).mono ?_; rintro e w1 ⟨rfl, rfl⟩; rw [HMn.out]))
    go_quiet (fail)
    go_wp2_with fail
    refine bodyPost_ret (v := .tuple #[.iface 125 (.agg #[.string n, .string t]), .bool false]) ?_ rfl ⟨rfl, below_drewN (by go_grown) _⟩
    simp (maxDischargeDepth := 9) [results, Try.results51, go_sem, *]
  · have HMn : Hid (nameB n = true) := hnamen
    clear hnamen
    cases hnamet : nameB t
    · have HMt : Hid (nameB t = false) := hnamet
      clear hnamet
      have FT : Hid (∀ W : World, Calls Try.prog 78 #[.string t] W fun e w' => e = .returned (.bool false) ∧ w' = W) := fun W => by
        have hh := impl_isFileName t W HT.out
        rw [HMt.out] at hh
        exact hh
      go_enter Try.func51, Try.ntmps51
      go_wp2_with (first
        | (go_at_call 78; refine (impl_isFileName n _ HN.out).mono ?_; rintro e w1 ⟨rfl, rfl⟩; rw [HMn.out]))
      go_quiet ((go_at_call 78; refine Calls.quiet_of_same (FT.out _)))
      go_wp2_with fail
      refine bodyPost_ret (v := .tuple #[.iface 125 (.agg #[.string n, .string t]), .bool false]) ?_ rfl ⟨rfl, below_drewN (by go_grown) _⟩
      simp (maxDischargeDepth := 9) [results, Try.results51, go_sem, *]
    · have HMt : Hid (nameB t = true) := hnamet
      clear hnamet
      have FT : Hid (∀ W : World, Calls Try.prog 78 #[.string t] W fun e w' => e = .returned (.bool true) ∧ w' = W) := fun W => by
        have hh := impl_isFileName t W HT.out
        rw [HMt.out] at hh
        exact hh
      cases hnod : noB d
      · have Ed : Hid (noB d = false) := hnod
        have ed : d.toList.isEmpty = false := hnod
        clear hnod
        go_enter Try.func51, Try.ntmps51
        go_wp2_with (first
          | (go_at_call 78; refine (impl_isFileName n _ HN.out).mono ?_; rintro e w1 ⟨rfl, rfl⟩; rw [HMn.out]))
        go_quiet ((go_at_call 78; refine Calls.quiet_of_same (FT.out _)))
        go_wp2_with fail
        refine bodyPost_ret (v := .tuple #[.iface 125 (.agg #[.string n, .string t]), .bool false]) ?_ rfl ⟨rfl, below_drewN (by go_grown) _⟩
        simp (maxDischargeDepth := 9) [results, Try.results51, go_sem, *]
      · have Ed : Hid (noB d = true) := hnod
        have ed : d.toList.isEmpty = true := hnod
        clear hnod
        go_enter Try.func51, Try.ntmps51
        go_wp2_with (first
          | (go_at_call 78; refine (impl_isFileName n _ HN.out).mono ?_; rintro e w1 ⟨rfl, rfl⟩; rw [HMn.out]))
        go_quiet ((go_at_call 78; refine Calls.quiet_of_same (FT.out _)))
        go_wp2_with fail
        refine bodyPost_ret (v := .tuple #[.iface 125 (.agg #[.string n, .string t]), .bool true]) ?_ rfl ⟨rfl, below_drewN (by go_grown) _⟩
        simp (maxDischargeDepth := 9) [results, Try.results51, go_sem, *]

set_option maxRecDepth 100000 in
set_option maxHeartbeats 2000000 in
theorem fileOpOf_3 (n t d : ByteArray) (w : World) (hn : n.size ≤ maxLen) (ht : t.size ≤ maxLen) :
    Calls Try.prog 51 #[.agg #[.int .i64 3, .string n, .string t, .string d]] w fun e w' => e = .returned (.tuple #[.iface 127 (.agg #[.string n]), .bool (nameB n && (noB t && noB d))]) ∧ Below w.heap.size w w' := by
  have HN : Hid (n.size ≤ maxLen) := hn
  have HT : Hid (t.size ≤ maxLen) := ht
  clear hn ht
  cases hnamen : nameB n
  · have HMn : Hid (nameB n = false) := hnamen
    clear hnamen
    go_enter Try.func51, Try.ntmps51
    go_wp2_with (first
      | (go_at_call 78; refine (impl_isFileName n _ HN.out).mono ?_; rintro e w1 ⟨rfl, rfl⟩; rw [HMn.out]))
    go_quiet (fail)
    go_wp2_with fail
    refine bodyPost_ret (v := .tuple #[.iface 127 (.agg #[.string n]), .bool false]) ?_ rfl ⟨rfl, below_drewN (by go_grown) _⟩
    simp (maxDischargeDepth := 9) [results, Try.results51, go_sem, *]
  · have HMn : Hid (nameB n = true) := hnamen
    clear hnamen
    cases hnot : noB t
    · have Et : Hid (noB t = false) := hnot
      have et : t.toList.isEmpty = false := hnot
      clear hnot
      go_enter Try.func51, Try.ntmps51
      go_wp2_with (first
        | (go_at_call 78; refine (impl_isFileName n _ HN.out).mono ?_; rintro e w1 ⟨rfl, rfl⟩; rw [HMn.out]))
      go_quiet (fail)
      go_wp2_with fail
      refine bodyPost_ret (v := .tuple #[.iface 127 (.agg #[.string n]), .bool false]) ?_ rfl ⟨rfl, below_drewN (by go_grown) _⟩
      simp (maxDischargeDepth := 9) [results, Try.results51, go_sem, *]
    · have Et : Hid (noB t = true) := hnot
      have et : t.toList.isEmpty = true := hnot
      clear hnot
      cases hnod : noB d
      · have Ed : Hid (noB d = false) := hnod
        have ed : d.toList.isEmpty = false := hnod
        clear hnod
        go_enter Try.func51, Try.ntmps51
        go_wp2_with (first
          | (go_at_call 78; refine (impl_isFileName n _ HN.out).mono ?_; rintro e w1 ⟨rfl, rfl⟩; rw [HMn.out]))
        go_quiet (fail)
        go_wp2_with fail
        refine bodyPost_ret (v := .tuple #[.iface 127 (.agg #[.string n]), .bool false]) ?_ rfl ⟨rfl, below_drewN (by go_grown) _⟩
        simp (maxDischargeDepth := 9) [results, Try.results51, go_sem, *]
      · have Ed : Hid (noB d = true) := hnod
        have ed : d.toList.isEmpty = true := hnod
        clear hnod
        go_enter Try.func51, Try.ntmps51
        go_wp2_with (first
          | (go_at_call 78; refine (impl_isFileName n _ HN.out).mono ?_; rintro e w1 ⟨rfl, rfl⟩; rw [HMn.out]))
        go_quiet (fail)
        go_wp2_with fail
        refine bodyPost_ret (v := .tuple #[.iface 127 (.agg #[.string n]), .bool true]) ?_ rfl ⟨rfl, below_drewN (by go_grown) _⟩
        simp (maxDischargeDepth := 9) [results, Try.results51, go_sem, *]

set_option maxRecDepth 100000 in
set_option maxHeartbeats 2000000 in
theorem fileOpOf_0 (k : Int) (n t d : ByteArray) (w : World) (hn : n.size ≤ maxLen) (h1 : ¬ k = 1) (h2 : ¬ k = 2) (h3 : ¬ k = 3) :
    Calls Try.prog 51 #[.agg #[.int .i64 k, .string n, .string t, .string d]] w fun e w' => e = .returned (.tuple #[.nilIface, .bool false]) ∧ Below w.heap.size w w' := by
  have HN : Hid (n.size ≤ maxLen) := hn
  have q1 : (k == 1) = false := by simpa using h1
  have q2 : (k == 2) = false := by simpa using h2
  have q3 : (k == 3) = false := by simpa using h3
  clear hn
  obtain ⟨bb, HMn⟩ : ∃ bb, Hid (nameB n = bb) := ⟨_, rfl⟩
  go_enter Try.func51, Try.ntmps51
  go_wp2_with (first
    | (go_at_call 78; refine (impl_isFileName n _ HN.out).mono ?_; rintro e w1 ⟨rfl, rfl⟩; rw [HMn.out]))
  refine bodyPost_ret (v := .tuple #[.nilIface, .bool false]) ?_ rfl ⟨rfl, by go_grown⟩
  simp (maxDischargeDepth := 9) [results, Try.results51, go_sem, *]
end Go.Proofs.Ytanjlpgdmnapdaa
