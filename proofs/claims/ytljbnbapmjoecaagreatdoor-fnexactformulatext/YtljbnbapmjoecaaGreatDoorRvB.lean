import Derived.Test.YtljbnbapmjoecaaGreatDoorRvA
import Derived.Test.YtljbnbapmjoecaaGreatDoorValsC
namespace Go.Proofs.YtljbnbapmjoecaaGreatDoor
open Go.RowKit
set_option linter.unusedSimpArgs false
set_option linter.unusedVariables false

/-- The only meaning that could have a text: its Kind, its number, its text; 5: none. -/
def gNum (o : Option Int) : Int × Int × ByteArray := match o with
  | some n => (1, n, ⟨#[]⟩)
  | none => (5, 0, ⟨#[]⟩)
def guessB (s : ByteArray) : Int × Int × ByteArray :=
  if s = trT 0 then (3, 0, ⟨#[]⟩) else if s = trT 1 then (3, 1, ⟨#[]⟩) else if s = erT 1 then (4, 1, ⟨#[]⟩) else if s = erT 2 then (4, 2, ⟨#[]⟩) else if s = erT 3 then (4, 3, ⟨#[]⟩)
  else if s = erT 4 then (4, 4, ⟨#[]⟩) else if s = erT 5 then (4, 5, ⟨#[]⟩) else gNum (rdec s.data.toList)
def guess (s : ByteArray) : Int × Int × ByteArray :=
  if h : 0 < s.size then (if s[0].toNat = 39 then (2, 0, s.extract 1 s.size) else guessB s) else (0, 0, ⟨#[]⟩)
def gVal (g : Int × Int × ByteArray) : Value := mBK g.1 g.2.1 g.2.2
def gOk (g : Int × Int × ByteArray) : Bool := if g.1 = 0 then true else if g.1 = 1 then rNum g.2.1 else if g.1 = 2 then rWord g.2.2 else if g.1 = 3 then rTruth g.2.1 else if g.1 = 4 then rFail g.2.1 else false
def rvT (g : Int × Int × ByteArray) : Value := if gOk g then .tuple #[.agg #[.int .i64 g.1, .int .i64 g.2.1, .string g.2.2], .bool true] else .tuple #[.agg #[.int .i64 0, .int .i64 0, .string ⟨#[]⟩], .bool false]
theorem toList_nil_of {s : ByteArray} (h : s.size = 0) : s = ⟨#[]⟩ := by
  obtain ⟨⟨l⟩⟩ := s
  match l, h with
  | [], _ => rfl
theorem ne_nil {s : ByteArray} (h : 0 < s.size) : (s.toList == (⟨#[]⟩ : ByteArray).toList) = false := str_ne (fun e => by rw [e] at h; exact absurd h (by decide))
theorem ne_nil2 {s : ByteArray} (h : 0 < s.size) : s.toList.isEmpty = false := by
  rw [ByteArray.toList_eq]
  obtain ⟨⟨l⟩⟩ := s
  match l, h with
  | a :: l', _ => rfl

set_option maxHeartbeats 2000000 in
theorem guessed_nil (w : World) : Calls Tryz.prog 73 #[.string ⟨#[]⟩] w fun e w' => e = .returned (mBK 0 0 ⟨#[]⟩) ∧ w' = w := by
  go_enter Tryz.func73, Tryz.ntmps73
  go_wp2
  go_ret
  exact ⟨rfl, rfl⟩

set_option maxHeartbeats 2000000 in
theorem guessed_word (s : ByteArray) (w : World) (hs : s.size ≤ 281474976710656) (h : 0 < s.size) (h39 : s[0].toNat = 39) : Calls Tryz.prog 73 #[.string s] w fun e w' => e = .returned (mBK 2 0 (s.extract 1 s.size)) ∧ w' = w := by
  have e1 := ne_nil h
  have e2 := ne_nil2 h
  have h1 : ((s[0].toNat : Nat) : Int) = 39 := by omega
  have h2 : (0 : Int) < (s.size : Int) := by omega
  have h3 : (1 : Int) ≤ (s.size : Int) := by omega
  go_enter Tryz.func73, Tryz.ntmps73
  go_wp2
  go_ret
  exact ⟨rfl, rfl⟩

set_option maxHeartbeats 4000000 in
theorem guessed_t0 (s : ByteArray) (w : World) (hs : s.size ≤ 281474976710656) (h : 0 < s.size) (h39 : s[0].toNat ≠ 39)  (hh : trT 0 = s) : Calls Tryz.prog 73 #[.string s] w fun e w' => e = .returned (mBK 3 0 ⟨#[]⟩) ∧ Below w.heap.size w w' := by
  have z1 := ne_nil h
  have z2 := ne_nil2 h
  have h1 : ¬ ((s[0].toNat : Nat) : Int) = 39 := by omega
  have h1' : (((s[0].toNat : Nat) : Int) == 39) = false := by simpa using h1
  have h2 : (0 : Int) < (s.size : Int) := by omega
  have e9 := str_eq hh
  clear hh
  go_enter Tryz.func73, Tryz.ntmps73
  go_wp2_with fail
  refine wp_loop_rounds 4 ?_
  rw [rounds_succ]
  go_wp2_with (first
    | (go_at_call 125; refine (text_truth _ _).mono ?_; rintro e w1 ⟨rfl, rfl⟩)
    | (go_at_call 126; refine (text_failure _ _).mono ?_; rintro e w1 ⟨rfl, rfl⟩))
  go_ret
  exact ⟨rfl, Below.refl _ _⟩

set_option maxHeartbeats 4000000 in
theorem guessed_t1 (s : ByteArray) (w : World) (hs : s.size ≤ 281474976710656) (h : 0 < s.size) (h39 : s[0].toNat ≠ 39) (n0 : trT 0 ≠ s) (hh : trT 1 = s) : Calls Tryz.prog 73 #[.string s] w fun e w' => e = .returned (mBK 3 1 ⟨#[]⟩) ∧ Below w.heap.size w w' := by
  have z1 := ne_nil h
  have z2 := ne_nil2 h
  have h1 : ¬ ((s[0].toNat : Nat) : Int) = 39 := by omega
  have h1' : (((s[0].toNat : Nat) : Int) == 39) = false := by simpa using h1
  have h2 : (0 : Int) < (s.size : Int) := by omega
  have e0 := str_ne n0
  clear n0
  have e9 := str_eq hh
  clear hh
  go_enter Tryz.func73, Tryz.ntmps73
  go_wp2_with fail
  refine wp_loop_rounds 4 ?_
  rw [rounds_succ]
  go_wp2_with (first
    | (go_at_call 125; refine (text_truth _ _).mono ?_; rintro e w1 ⟨rfl, rfl⟩)
    | (go_at_call 126; refine (text_failure _ _).mono ?_; rintro e w1 ⟨rfl, rfl⟩))
  rw [rounds_succ]
  go_wp2_with (first
    | (go_at_call 125; refine (text_truth _ _).mono ?_; rintro e w1 ⟨rfl, rfl⟩)
    | (go_at_call 126; refine (text_failure _ _).mono ?_; rintro e w1 ⟨rfl, rfl⟩))
  go_ret
  exact ⟨rfl, Below.refl _ _⟩

set_option maxHeartbeats 4000000 in
theorem guessed_t2 (s : ByteArray) (w : World) (hs : s.size ≤ 281474976710656) (h : 0 < s.size) (h39 : s[0].toNat ≠ 39) (n0 : trT 0 ≠ s) (n1 : trT 1 ≠ s) (hh : erT 1 = s) : Calls Tryz.prog 73 #[.string s] w fun e w' => e = .returned (mBK 4 1 ⟨#[]⟩) ∧ Below w.heap.size w w' := by
  have z1 := ne_nil h
  have z2 := ne_nil2 h
  have h1 : ¬ ((s[0].toNat : Nat) : Int) = 39 := by omega
  have h1' : (((s[0].toNat : Nat) : Int) == 39) = false := by simpa using h1
  have h2 : (0 : Int) < (s.size : Int) := by omega
  have e0 := str_ne n0
  clear n0
  have e1 := str_ne n1
  clear n1
  have e9 := str_eq hh
  clear hh
  go_enter Tryz.func73, Tryz.ntmps73
  go_wp2_with fail
  refine wp_loop_rounds 4 ?_
  rw [rounds_succ]
  go_wp2_with (first
    | (go_at_call 125; refine (text_truth _ _).mono ?_; rintro e w1 ⟨rfl, rfl⟩)
    | (go_at_call 126; refine (text_failure _ _).mono ?_; rintro e w1 ⟨rfl, rfl⟩))
  rw [rounds_succ]
  go_wp2_with (first
    | (go_at_call 125; refine (text_truth _ _).mono ?_; rintro e w1 ⟨rfl, rfl⟩)
    | (go_at_call 126; refine (text_failure _ _).mono ?_; rintro e w1 ⟨rfl, rfl⟩))
  rw [rounds_succ]
  go_wp2_with (first
    | (go_at_call 125; refine (text_truth _ _).mono ?_; rintro e w1 ⟨rfl, rfl⟩)
    | (go_at_call 126; refine (text_failure _ _).mono ?_; rintro e w1 ⟨rfl, rfl⟩))
  refine wp_loop_rounds 8 ?_
  rw [rounds_succ]
  go_wp2_with (first
    | (go_at_call 125; refine (text_truth _ _).mono ?_; rintro e w1 ⟨rfl, rfl⟩)
    | (go_at_call 126; refine (text_failure _ _).mono ?_; rintro e w1 ⟨rfl, rfl⟩))
  go_ret
  exact ⟨rfl, Below.refl _ _⟩

set_option maxHeartbeats 4000000 in
theorem guessed_t3 (s : ByteArray) (w : World) (hs : s.size ≤ 281474976710656) (h : 0 < s.size) (h39 : s[0].toNat ≠ 39) (n0 : trT 0 ≠ s) (n1 : trT 1 ≠ s) (n2 : erT 1 ≠ s) (hh : erT 2 = s) : Calls Tryz.prog 73 #[.string s] w fun e w' => e = .returned (mBK 4 2 ⟨#[]⟩) ∧ Below w.heap.size w w' := by
  have z1 := ne_nil h
  have z2 := ne_nil2 h
  have h1 : ¬ ((s[0].toNat : Nat) : Int) = 39 := by omega
  have h1' : (((s[0].toNat : Nat) : Int) == 39) = false := by simpa using h1
  have h2 : (0 : Int) < (s.size : Int) := by omega
  have e0 := str_ne n0
  clear n0
  have e1 := str_ne n1
  clear n1
  have e2 := str_ne n2
  clear n2
  have e9 := str_eq hh
  clear hh
  go_enter Tryz.func73, Tryz.ntmps73
  go_wp2_with fail
  refine wp_loop_rounds 4 ?_
  rw [rounds_succ]
  go_wp2_with (first
    | (go_at_call 125; refine (text_truth _ _).mono ?_; rintro e w1 ⟨rfl, rfl⟩)
    | (go_at_call 126; refine (text_failure _ _).mono ?_; rintro e w1 ⟨rfl, rfl⟩))
  rw [rounds_succ]
  go_wp2_with (first
    | (go_at_call 125; refine (text_truth _ _).mono ?_; rintro e w1 ⟨rfl, rfl⟩)
    | (go_at_call 126; refine (text_failure _ _).mono ?_; rintro e w1 ⟨rfl, rfl⟩))
  rw [rounds_succ]
  go_wp2_with (first
    | (go_at_call 125; refine (text_truth _ _).mono ?_; rintro e w1 ⟨rfl, rfl⟩)
    | (go_at_call 126; refine (text_failure _ _).mono ?_; rintro e w1 ⟨rfl, rfl⟩))
  refine wp_loop_rounds 8 ?_
  rw [rounds_succ]
  go_wp2_with (first
    | (go_at_call 125; refine (text_truth _ _).mono ?_; rintro e w1 ⟨rfl, rfl⟩)
    | (go_at_call 126; refine (text_failure _ _).mono ?_; rintro e w1 ⟨rfl, rfl⟩))
  rw [rounds_succ]
  go_wp2_with (first
    | (go_at_call 125; refine (text_truth _ _).mono ?_; rintro e w1 ⟨rfl, rfl⟩)
    | (go_at_call 126; refine (text_failure _ _).mono ?_; rintro e w1 ⟨rfl, rfl⟩))
  go_ret
  exact ⟨rfl, Below.refl _ _⟩

set_option maxHeartbeats 4000000 in
theorem guessed_t4 (s : ByteArray) (w : World) (hs : s.size ≤ 281474976710656) (h : 0 < s.size) (h39 : s[0].toNat ≠ 39) (n0 : trT 0 ≠ s) (n1 : trT 1 ≠ s) (n2 : erT 1 ≠ s) (n3 : erT 2 ≠ s) (hh : erT 3 = s) : Calls Tryz.prog 73 #[.string s] w fun e w' => e = .returned (mBK 4 3 ⟨#[]⟩) ∧ Below w.heap.size w w' := by
  have z1 := ne_nil h
  have z2 := ne_nil2 h
  have h1 : ¬ ((s[0].toNat : Nat) : Int) = 39 := by omega
  have h1' : (((s[0].toNat : Nat) : Int) == 39) = false := by simpa using h1
  have h2 : (0 : Int) < (s.size : Int) := by omega
  have e0 := str_ne n0
  clear n0
  have e1 := str_ne n1
  clear n1
  have e2 := str_ne n2
  clear n2
  have e3 := str_ne n3
  clear n3
  have e9 := str_eq hh
  clear hh
  go_enter Tryz.func73, Tryz.ntmps73
  go_wp2_with fail
  refine wp_loop_rounds 4 ?_
  rw [rounds_succ]
  go_wp2_with (first
    | (go_at_call 125; refine (text_truth _ _).mono ?_; rintro e w1 ⟨rfl, rfl⟩)
    | (go_at_call 126; refine (text_failure _ _).mono ?_; rintro e w1 ⟨rfl, rfl⟩))
  rw [rounds_succ]
  go_wp2_with (first
    | (go_at_call 125; refine (text_truth _ _).mono ?_; rintro e w1 ⟨rfl, rfl⟩)
    | (go_at_call 126; refine (text_failure _ _).mono ?_; rintro e w1 ⟨rfl, rfl⟩))
  rw [rounds_succ]
  go_wp2_with (first
    | (go_at_call 125; refine (text_truth _ _).mono ?_; rintro e w1 ⟨rfl, rfl⟩)
    | (go_at_call 126; refine (text_failure _ _).mono ?_; rintro e w1 ⟨rfl, rfl⟩))
  refine wp_loop_rounds 8 ?_
  rw [rounds_succ]
  go_wp2_with (first
    | (go_at_call 125; refine (text_truth _ _).mono ?_; rintro e w1 ⟨rfl, rfl⟩)
    | (go_at_call 126; refine (text_failure _ _).mono ?_; rintro e w1 ⟨rfl, rfl⟩))
  rw [rounds_succ]
  go_wp2_with (first
    | (go_at_call 125; refine (text_truth _ _).mono ?_; rintro e w1 ⟨rfl, rfl⟩)
    | (go_at_call 126; refine (text_failure _ _).mono ?_; rintro e w1 ⟨rfl, rfl⟩))
  rw [rounds_succ]
  go_wp2_with (first
    | (go_at_call 125; refine (text_truth _ _).mono ?_; rintro e w1 ⟨rfl, rfl⟩)
    | (go_at_call 126; refine (text_failure _ _).mono ?_; rintro e w1 ⟨rfl, rfl⟩))
  go_ret
  exact ⟨rfl, Below.refl _ _⟩

set_option maxHeartbeats 4000000 in
theorem guessed_t5 (s : ByteArray) (w : World) (hs : s.size ≤ 281474976710656) (h : 0 < s.size) (h39 : s[0].toNat ≠ 39) (n0 : trT 0 ≠ s) (n1 : trT 1 ≠ s) (n2 : erT 1 ≠ s) (n3 : erT 2 ≠ s) (n4 : erT 3 ≠ s) (hh : erT 4 = s) : Calls Tryz.prog 73 #[.string s] w fun e w' => e = .returned (mBK 4 4 ⟨#[]⟩) ∧ Below w.heap.size w w' := by
  have z1 := ne_nil h
  have z2 := ne_nil2 h
  have h1 : ¬ ((s[0].toNat : Nat) : Int) = 39 := by omega
  have h1' : (((s[0].toNat : Nat) : Int) == 39) = false := by simpa using h1
  have h2 : (0 : Int) < (s.size : Int) := by omega
  have e0 := str_ne n0
  clear n0
  have e1 := str_ne n1
  clear n1
  have e2 := str_ne n2
  clear n2
  have e3 := str_ne n3
  clear n3
  have e4 := str_ne n4
  clear n4
  have e9 := str_eq hh
  clear hh
  go_enter Tryz.func73, Tryz.ntmps73
  go_wp2_with fail
  refine wp_loop_rounds 4 ?_
  rw [rounds_succ]
  go_wp2_with (first
    | (go_at_call 125; refine (text_truth _ _).mono ?_; rintro e w1 ⟨rfl, rfl⟩)
    | (go_at_call 126; refine (text_failure _ _).mono ?_; rintro e w1 ⟨rfl, rfl⟩))
  rw [rounds_succ]
  go_wp2_with (first
    | (go_at_call 125; refine (text_truth _ _).mono ?_; rintro e w1 ⟨rfl, rfl⟩)
    | (go_at_call 126; refine (text_failure _ _).mono ?_; rintro e w1 ⟨rfl, rfl⟩))
  rw [rounds_succ]
  go_wp2_with (first
    | (go_at_call 125; refine (text_truth _ _).mono ?_; rintro e w1 ⟨rfl, rfl⟩)
    | (go_at_call 126; refine (text_failure _ _).mono ?_; rintro e w1 ⟨rfl, rfl⟩))
  refine wp_loop_rounds 8 ?_
  rw [rounds_succ]
  go_wp2_with (first
    | (go_at_call 125; refine (text_truth _ _).mono ?_; rintro e w1 ⟨rfl, rfl⟩)
    | (go_at_call 126; refine (text_failure _ _).mono ?_; rintro e w1 ⟨rfl, rfl⟩))
  rw [rounds_succ]
  go_wp2_with (first
    | (go_at_call 125; refine (text_truth _ _).mono ?_; rintro e w1 ⟨rfl, rfl⟩)
    | (go_at_call 126; refine (text_failure _ _).mono ?_; rintro e w1 ⟨rfl, rfl⟩))
  rw [rounds_succ]
  go_wp2_with (first
    | (go_at_call 125; refine (text_truth _ _).mono ?_; rintro e w1 ⟨rfl, rfl⟩)
    | (go_at_call 126; refine (text_failure _ _).mono ?_; rintro e w1 ⟨rfl, rfl⟩))
  rw [rounds_succ]
  go_wp2_with (first
    | (go_at_call 125; refine (text_truth _ _).mono ?_; rintro e w1 ⟨rfl, rfl⟩)
    | (go_at_call 126; refine (text_failure _ _).mono ?_; rintro e w1 ⟨rfl, rfl⟩))
  go_ret
  exact ⟨rfl, Below.refl _ _⟩

set_option maxHeartbeats 4000000 in
theorem guessed_t6 (s : ByteArray) (w : World) (hs : s.size ≤ 281474976710656) (h : 0 < s.size) (h39 : s[0].toNat ≠ 39) (n0 : trT 0 ≠ s) (n1 : trT 1 ≠ s) (n2 : erT 1 ≠ s) (n3 : erT 2 ≠ s) (n4 : erT 3 ≠ s) (n5 : erT 4 ≠ s) (hh : erT 5 = s) : Calls Tryz.prog 73 #[.string s] w fun e w' => e = .returned (mBK 4 5 ⟨#[]⟩) ∧ Below w.heap.size w w' := by
  have z1 := ne_nil h
  have z2 := ne_nil2 h
  have h1 : ¬ ((s[0].toNat : Nat) : Int) = 39 := by omega
  have h1' : (((s[0].toNat : Nat) : Int) == 39) = false := by simpa using h1
  have h2 : (0 : Int) < (s.size : Int) := by omega
  have e0 := str_ne n0
  clear n0
  have e1 := str_ne n1
  clear n1
  have e2 := str_ne n2
  clear n2
  have e3 := str_ne n3
  clear n3
  have e4 := str_ne n4
  clear n4
  have e5 := str_ne n5
  clear n5
  have e9 := str_eq hh
  clear hh
  go_enter Tryz.func73, Tryz.ntmps73
  go_wp2_with fail
  refine wp_loop_rounds 4 ?_
  rw [rounds_succ]
  go_wp2_with (first
    | (go_at_call 125; refine (text_truth _ _).mono ?_; rintro e w1 ⟨rfl, rfl⟩)
    | (go_at_call 126; refine (text_failure _ _).mono ?_; rintro e w1 ⟨rfl, rfl⟩))
  rw [rounds_succ]
  go_wp2_with (first
    | (go_at_call 125; refine (text_truth _ _).mono ?_; rintro e w1 ⟨rfl, rfl⟩)
    | (go_at_call 126; refine (text_failure _ _).mono ?_; rintro e w1 ⟨rfl, rfl⟩))
  rw [rounds_succ]
  go_wp2_with (first
    | (go_at_call 125; refine (text_truth _ _).mono ?_; rintro e w1 ⟨rfl, rfl⟩)
    | (go_at_call 126; refine (text_failure _ _).mono ?_; rintro e w1 ⟨rfl, rfl⟩))
  refine wp_loop_rounds 8 ?_
  rw [rounds_succ]
  go_wp2_with (first
    | (go_at_call 125; refine (text_truth _ _).mono ?_; rintro e w1 ⟨rfl, rfl⟩)
    | (go_at_call 126; refine (text_failure _ _).mono ?_; rintro e w1 ⟨rfl, rfl⟩))
  rw [rounds_succ]
  go_wp2_with (first
    | (go_at_call 125; refine (text_truth _ _).mono ?_; rintro e w1 ⟨rfl, rfl⟩)
    | (go_at_call 126; refine (text_failure _ _).mono ?_; rintro e w1 ⟨rfl, rfl⟩))
  rw [rounds_succ]
  go_wp2_with (first
    | (go_at_call 125; refine (text_truth _ _).mono ?_; rintro e w1 ⟨rfl, rfl⟩)
    | (go_at_call 126; refine (text_failure _ _).mono ?_; rintro e w1 ⟨rfl, rfl⟩))
  rw [rounds_succ]
  go_wp2_with (first
    | (go_at_call 125; refine (text_truth _ _).mono ?_; rintro e w1 ⟨rfl, rfl⟩)
    | (go_at_call 126; refine (text_failure _ _).mono ?_; rintro e w1 ⟨rfl, rfl⟩))
  rw [rounds_succ]
  go_wp2_with (first
    | (go_at_call 125; refine (text_truth _ _).mono ?_; rintro e w1 ⟨rfl, rfl⟩)
    | (go_at_call 126; refine (text_failure _ _).mono ?_; rintro e w1 ⟨rfl, rfl⟩))
  go_ret
  exact ⟨rfl, Below.refl _ _⟩

set_option maxHeartbeats 4000000 in
theorem guessed_last (s : ByteArray) (w : World) (hs : s.size ≤ 281474976710656) (h : 0 < s.size) (h39 : s[0].toNat ≠ 39) (n0 : trT 0 ≠ s) (n1 : trT 1 ≠ s) (n2 : erT 1 ≠ s) (n3 : erT 2 ≠ s) (n4 : erT 3 ≠ s) (n5 : erT 4 ≠ s) (n6 : erT 5 ≠ s) (hv : Vars w) : Calls Tryz.prog 73 #[.string s] w fun e w' => e = .returned (gVal (gNum (rdec s.data.toList))) ∧ Below w.heap.size w w' := by
  have HV : Hid (Vars w) := hv
  clear hv
  have z1 := ne_nil h
  have z2 := ne_nil2 h
  have h1 : ¬ ((s[0].toNat : Nat) : Int) = 39 := by omega
  have h1' : (((s[0].toNat : Nat) : Int) == 39) = false := by simpa using h1
  have h2 : (0 : Int) < (s.size : Int) := by omega
  have e0 := str_ne n0
  clear n0
  have e1 := str_ne n1
  clear n1
  have e2 := str_ne n2
  clear n2
  have e3 := str_ne n3
  clear n3
  have e4 := str_ne n4
  clear n4
  have e5 := str_ne n5
  clear n5
  have e6 := str_ne n6
  clear n6
  go_enter Tryz.func73, Tryz.ntmps73
  go_wp2_with fail
  refine wp_loop_rounds 4 ?_
  rw [rounds_succ]
  go_wp2_with (first
    | (go_at_call 125; refine (text_truth _ _).mono ?_; rintro e w1 ⟨rfl, rfl⟩)
    | (go_at_call 126; refine (text_failure _ _).mono ?_; rintro e w1 ⟨rfl, rfl⟩))
  rw [rounds_succ]
  go_wp2_with (first
    | (go_at_call 125; refine (text_truth _ _).mono ?_; rintro e w1 ⟨rfl, rfl⟩)
    | (go_at_call 126; refine (text_failure _ _).mono ?_; rintro e w1 ⟨rfl, rfl⟩))
  rw [rounds_succ]
  go_wp2_with (first
    | (go_at_call 125; refine (text_truth _ _).mono ?_; rintro e w1 ⟨rfl, rfl⟩)
    | (go_at_call 126; refine (text_failure _ _).mono ?_; rintro e w1 ⟨rfl, rfl⟩))
  refine wp_loop_rounds 8 ?_
  rw [rounds_succ]
  go_wp2_with (first
    | (go_at_call 125; refine (text_truth _ _).mono ?_; rintro e w1 ⟨rfl, rfl⟩)
    | (go_at_call 126; refine (text_failure _ _).mono ?_; rintro e w1 ⟨rfl, rfl⟩))
  rw [rounds_succ]
  go_wp2_with (first
    | (go_at_call 125; refine (text_truth _ _).mono ?_; rintro e w1 ⟨rfl, rfl⟩)
    | (go_at_call 126; refine (text_failure _ _).mono ?_; rintro e w1 ⟨rfl, rfl⟩))
  rw [rounds_succ]
  go_wp2_with (first
    | (go_at_call 125; refine (text_truth _ _).mono ?_; rintro e w1 ⟨rfl, rfl⟩)
    | (go_at_call 126; refine (text_failure _ _).mono ?_; rintro e w1 ⟨rfl, rfl⟩))
  rw [rounds_succ]
  go_wp2_with (first
    | (go_at_call 125; refine (text_truth _ _).mono ?_; rintro e w1 ⟨rfl, rfl⟩)
    | (go_at_call 126; refine (text_failure _ _).mono ?_; rintro e w1 ⟨rfl, rfl⟩))
  rw [rounds_succ]
  go_wp2_with (first
    | (go_at_call 125; refine (text_truth _ _).mono ?_; rintro e w1 ⟨rfl, rfl⟩)
    | (go_at_call 126; refine (text_failure _ _).mono ?_; rintro e w1 ⟨rfl, rfl⟩))
  rw [rounds_succ]
  go_wp2_with (first
    | (go_at_call 125; refine (text_truth _ _).mono ?_; rintro e w1 ⟨rfl, rfl⟩)
    | (go_at_call 126; refine (text_failure _ _).mono ?_; rintro e w1 ⟨rfl, rfl⟩))
  refine (impl_readDecimal s _ hs HV.out).mono ?_
  rintro e w1 ⟨rfl, hb⟩
  cases hr : rdec s.data.toList with
  | none =>
    simp only [Option.getD_none, Option.isSome_none]
    go_wp2_with fail
    go_ret
    exact ⟨ret_val (by first | rfl | (rw [hr]; rfl)), hb⟩
  | some n =>
    simp only [Option.getD_some, Option.isSome_some]
    go_wp2_with fail
    go_ret
    exact ⟨ret_val (by first | rfl | (rw [hr]; rfl)), hb⟩

theorem impl_guessed (s : ByteArray) (w : World) (hs : s.size ≤ 281474976710656) (hv : Vars w) : Calls Tryz.prog 73 #[.string s] w fun e w' => e = .returned (gVal (guess s)) ∧ Below w.heap.size w w' := by
  by_cases h : 0 < s.size
  · by_cases h39 : s[0].toNat = 39
    · rw [show guess s = (2, 0, s.extract 1 s.size) by unfold guess; rw [dif_pos h, if_pos h39]]
      exact (guessed_word s w hs h h39).mono fun _ _ q => ⟨q.1, by rw [q.2]; exact Below.refl _ _⟩
    rw [show guess s = guessB s by unfold guess; rw [dif_pos h, if_neg h39]]
    unfold guessB
    by_cases n0 : s = trT 0
    · rw [if_pos n0]; exact guessed_t0 s w hs h h39 n0.symm
    by_cases n1 : s = trT 1
    · rw [if_neg n0, if_pos n1]; exact guessed_t1 s w hs h h39 (Ne.symm n0) n1.symm
    by_cases n2 : s = erT 1
    · rw [if_neg n0, if_neg n1, if_pos n2]; exact guessed_t2 s w hs h h39 (Ne.symm n0) (Ne.symm n1) n2.symm
    by_cases n3 : s = erT 2
    · rw [if_neg n0, if_neg n1, if_neg n2, if_pos n3]; exact guessed_t3 s w hs h h39 (Ne.symm n0) (Ne.symm n1) (Ne.symm n2) n3.symm
    by_cases n4 : s = erT 3
    · rw [if_neg n0, if_neg n1, if_neg n2, if_neg n3, if_pos n4]; exact guessed_t4 s w hs h h39 (Ne.symm n0) (Ne.symm n1) (Ne.symm n2) (Ne.symm n3) n4.symm
    by_cases n5 : s = erT 4
    · rw [if_neg n0, if_neg n1, if_neg n2, if_neg n3, if_neg n4, if_pos n5]; exact guessed_t5 s w hs h h39 (Ne.symm n0) (Ne.symm n1) (Ne.symm n2) (Ne.symm n3) (Ne.symm n4) n5.symm
    by_cases n6 : s = erT 5
    · rw [if_neg n0, if_neg n1, if_neg n2, if_neg n3, if_neg n4, if_neg n5, if_pos n6]; exact guessed_t6 s w hs h h39 (Ne.symm n0) (Ne.symm n1) (Ne.symm n2) (Ne.symm n3) (Ne.symm n4) (Ne.symm n5) n6.symm
    rw [if_neg n0, if_neg n1, if_neg n2, if_neg n3, if_neg n4, if_neg n5, if_neg n6]
    exact guessed_last s w hs h h39 (Ne.symm n0) (Ne.symm n1) (Ne.symm n2) (Ne.symm n3) (Ne.symm n4) (Ne.symm n5) (Ne.symm n6) hv
  · rw [show guess s = (0, 0, ⟨#[]⟩) by unfold guess; rw [dif_neg h]]
    obtain rfl := toList_nil_of (s := s) (by omega)
    exact (guessed_nil w).mono fun _ _ q => ⟨q.1, by rw [q.2]; exact Below.refl _ _⟩
end Go.Proofs.YtljbnbapmjoecaaGreatDoor
