import Derived.Test.YthagnaeemipnlaaCvG
namespace Go.Proofs.Ythagnaeemipnlaa
open Go.RowKit

/-! ### What is looked up, as numbers and a text -/
def fIx (C R : Nat → Int) (n : Nat) (p q : Int) : Option Nat := (List.range n).find? fun i => decide (C i = p ∧ R i = q)
def lkK (C R K V : Nat → Int) (S : Nat → ByteArray) (n : Nat) (p q : Int) : Int := if cvOkB C R K V S n then (match fIx C R n p q with | some i => K i | none => 0) else 0
def lkN (C R K V : Nat → Int) (S : Nat → ByteArray) (n : Nat) (p q : Int) : Int := if cvOkB C R K V S n then (match fIx C R n p q with | some i => V i | none => 0) else 0
def lkS (C R K V : Nat → Int) (S : Nat → ByteArray) (n : Nat) (p q : Int) : ByteArray := if cvOkB C R K V S n then (match fIx C R n p q with | some i => S i | none => ⟨#[]⟩) else ⟨#[]⟩
theorem range_find {f : Nat → Bool} : ∀ {n i : Nat}, i < n → f i = true → (∀ j, j < i → f j = false) → (List.range n).find? f = some i
  | 0, i, hi, _, _ => absurd hi (Nat.not_lt_zero _)
  | n + 1, i, hi, h, hf => by
    rw [List.range_succ, List.find?_append]
    by_cases e : i = n
    · subst e
      have : (List.range i).find? f = none := by rw [List.find?_eq_none]; intro x hx; simp [hf x (List.mem_range.1 hx)]
      rw [this]
      simp [h]
    · rw [range_find (by omega) h hf]
      rfl
theorem lk_of {C R K V : Nat → Int} {S : Nat → ByteArray} {n : Nat} {p q k v : Int} {s : ByteArray} (ho : cvOkB C R K V S n = true) (h : LkV C R K V S n p q k v s) : k = lkK C R K V S n p q ∧ v = lkN C R K V S n p q ∧ s = lkS C R K V S n p q := by
  rcases h with ⟨i, hi, c1, c2, hf, rfl, rfl, rfl⟩ | ⟨hf, rfl, rfl, rfl⟩
  · have e : fIx C R n p q = some i := range_find hi (by simp [c1, c2]) (fun j hj => by simpa using hf j hj)
    simp [lkK, lkN, lkS, ho, e]
  · have e : fIx C R n p q = none := by rw [fIx, List.find?_eq_none]; intro x hx; simpa using hf x (List.mem_range.1 hx)
    simp [lkK, lkN, lkS, ho, e]
theorem lk_no {C R K V : Nat → Int} {S : Nat → ByteArray} {n : Nat} {p q : Int} (ho : cvOkB C R K V S n = false) : lkK C R K V S n p q = 0 ∧ lkN C R K V S n p q = 0 ∧ lkS C R K V S n p q = ⟨#[]⟩ := by
  simp [lkK, lkN, lkS, ho]
/-- A cell, carried over a call. -/
theorem cy {W w' : World} {b o : Nat} {x : Value} (hb : Below W.heap.size W w') (c : W.cell? ⟨b, o, none⟩ = some x) : w'.cell? ⟨b, o, none⟩ = some x :=
  (hb.cell (p := ⟨b, o, none⟩) (World.block_lt_of_cell? W ⟨b, o, none⟩ c)).trans c

set_option maxHeartbeats 1000000 in
theorem impl_Lookup {A : Option Addr} {n cap : Nat} {C R K V : Nat → Int} {S : Nat → ByteArray} (p q : Int) (w : World) (h : CvRow w A n C R K V S) :
    Calls Try.prog 21 #[.slice A n cap, .agg #[.int .i64 p, .int .i64 q]] w fun e w' => e = .returned (.agg #[.int .i64 (lkK C R K V S n p q), .int .i64 (lkN C R K V S n p q), .string (lkS C R K V S n p q)]) ∧ Below w.heap.size w w' := by
  have HR : Hid (CvRow w A n C R K V S) := h
  clear h
  cases ho : cvOkB C R K V S n
  · have HO : Hid (cvOkB C R K V S n = false) := ho
    clear ho
    go_enter Try.func21, Try.ntmps21
    go_wp2_with fail
    refine (impl_ValuesOk _ (HR.out.below (by go_grown))).mono ?_
    rintro e w1 ⟨rfl, hb⟩
    rw [HO.out]
    obtain ⟨hc, hf, hC, hF, hz, hk, l0, l1⟩ := bk2 (w := w) (by go_grown) (by go_size) hb
    clear hb
    go_wp2_with fail
    refine bodyPost_ret (v := .agg #[.int .i64 0, .int .i64 0, .string ⟨#[]⟩]) ?_ rfl ⟨?_, by go_grown⟩
    · simp (maxDischargeDepth := 9) [results, Try.results21, go_sem, *]
    · rw [(lk_no HO.out).1, (lk_no HO.out).2.1, (lk_no HO.out).2.2]
  · have HO : Hid (cvOkB C R K V S n = true) := ho
    clear ho
    go_enter Try.func21, Try.ntmps21
    go_wp2_with fail
    refine (impl_ValuesOk _ (HR.out.below (by go_grown))).mono ?_
    rintro e w1 ⟨rfl, hb⟩
    rw [HO.out]
    have HK : Hid (Below w.heap.size w w1) := bchain (by go_grown) hb
    obtain ⟨hc, hf, hC, hF, hz, hk, l0, l1⟩ := bk2 (w := w) (by go_grown) (by go_size) hb
    clear hb
    go_wp2_with fail
    refine (impl_valueAt p q _ (HR.out.below HK.out)).mono ?_
    rintro e w2 ⟨k, v, s, rfl, hL, hb⟩
    obtain ⟨e1, e2, e3⟩ := lk_of HO.out hL
    have E1 : Hid (k = lkK C R K V S n p q) := e1
    have E2 : Hid (v = lkN C R K V S n p q) := e2
    have E3 : Hid (s = lkS C R K V S n p q) := e3
    clear e1 e2 e3 hL
    obtain ⟨hc, hf, hC, hF, hz, hk, l0, l1⟩ := bk2 (w := w) (by go_grown) (by go_size) hb
    clear hb
    go_wp2_with fail
    refine bodyPost_ret (v := .agg #[.int .i64 k, .int .i64 v, .string s]) ?_ rfl ⟨?_, by go_grown⟩
    · simp (maxDischargeDepth := 9) [results, Try.results21, go_sem, *]
    · rw [E1.out, E2.out, E3.out]

set_option maxHeartbeats 1000000 in
theorem spec_Lookup {A : Option Addr} {n cap : Nat} {C R K V : Nat → Int} {S : Nat → ByteArray} (p q : Int) (w : World) (h : CvRow w A n C R K V S) :
    Calls Try.prog 19 #[.slice A n cap, .agg #[.int .i64 p, .int .i64 q]] w fun e w' => e = .returned (.agg #[.int .i64 (lkK C R K V S n p q), .int .i64 (lkN C R K V S n p q), .string (lkS C R K V S n p q)]) ∧ Below w.heap.size w w' := by
  have HR : Hid (CvRow w A n C R K V S) := h
  clear h
  cases ho : cvOkB C R K V S n
  · have HO : Hid (cvOkB C R K V S n = false) := ho
    clear ho
    go_enter Try.func19, Try.ntmps19
    go_wp2_with fail
    refine (spec_ValuesOk _ (HR.out.below (by go_grown))).mono ?_
    rintro e w1 ⟨rfl, hb⟩
    rw [HO.out]
    obtain ⟨hc, hf, hC, hF, hz, hk, l0, l1⟩ := bk2 (w := w) (by go_grown) (by go_size) hb
    clear hb
    go_wp2_with fail
    refine bodyPost_ret (v := .agg #[.int .i64 0, .int .i64 0, .string ⟨#[]⟩]) ?_ rfl ⟨?_, by go_grown⟩
    · simp (maxDischargeDepth := 9) [results, Try.results19, go_sem, *]
    · rw [(lk_no HO.out).1, (lk_no HO.out).2.1, (lk_no HO.out).2.2]
  · have HO : Hid (cvOkB C R K V S n = true) := ho
    clear ho
    go_enter Try.func19, Try.ntmps19
    go_wp2_with fail
    refine (spec_ValuesOk _ (HR.out.below (by go_grown))).mono ?_
    rintro e w1 ⟨rfl, hb⟩
    rw [HO.out]
    have HK : Hid (Below w.heap.size w w1) := bchain (by go_grown) hb
    obtain ⟨hc, hf, hC, hF, hz, hk, l0, l1⟩ := bk2 (w := w) (by go_grown) (by go_size) hb
    clear hb
    go_wp2_with fail
    refine (spec_l6At p q _ (HR.out.below HK.out)).mono ?_
    rintro e w2 ⟨k, v, s, rfl, hL, hb⟩
    obtain ⟨e1, e2, e3⟩ := lk_of HO.out hL
    have E1 : Hid (k = lkK C R K V S n p q) := e1
    have E2 : Hid (v = lkN C R K V S n p q) := e2
    have E3 : Hid (s = lkS C R K V S n p q) := e3
    clear e1 e2 e3 hL
    obtain ⟨hc, hf, hC, hF, hz, hk, l0, l1⟩ := bk2 (w := w) (by go_grown) (by go_size) hb
    clear hb
    go_wp2_with fail
    refine bodyPost_ret (v := .agg #[.int .i64 k, .int .i64 v, .string s]) ?_ rfl ⟨?_, by go_grown⟩
    · simp (maxDischargeDepth := 9) [results, Try.results19, go_sem, *]
    · rw [E1.out, E2.out, E3.out]
end Go.Proofs.Ythagnaeemipnlaa
