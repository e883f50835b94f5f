import Derived.Test.YthagnaeemipnlaaCvA
import Derived.Test.YthagnaeemipnlaaValsH0
import Derived.Test.YthagnaeemipnlaaValsK
namespace Go.Proofs.Ythagnaeemipnlaa
open Go.RowKit

/-! ### A row of values by their places: Col, Row, Kind, N, S of each -/
def CvRow (W : World) (A : Option Addr) (n : Nat) (C R K V : Nat → Int) (S : Nat → ByteArray) : Prop :=
  n ≤ maxLen ∧ ∀ i, i < n → ∃ b o, A = some ⟨b, o, none⟩ ∧ b < W.heap.size ∧ W.cell? ⟨b, o + i * 5, none⟩ = some (.int .i64 (C i)) ∧ W.cell? ⟨b, o + i * 5 + 1, none⟩ = some (.int .i64 (R i)) ∧
    W.cell? ⟨b, o + i * 5 + 2, none⟩ = some (.int .i64 (K i)) ∧ W.cell? ⟨b, o + i * 5 + 2 + 1, none⟩ = some (.int .i64 (V i)) ∧ W.cell? ⟨b, o + i * 5 + 2 + 2, none⟩ = some (.string (S i)) ∧ (S i).size ≤ maxLen
theorem CvRow.below {W W' : World} {A : Option Addr} {n : Nat} {C R K V : Nat → Int} {S : Nat → ByteArray} (h : CvRow W A n C R K V S) (hb : Below W.heap.size W W') : CvRow W' A n C R K V S :=
  ⟨h.1, fun i hi => by
    obtain ⟨b, o, e, hl, c0, c1, c2, c3, c4, hs⟩ := h.2 i hi
    exact ⟨b, o, e, Nat.lt_of_lt_of_le hl hb.size, (hb.cell (p := ⟨b, _, none⟩) hl).trans c0, (hb.cell (p := ⟨b, _, none⟩) hl).trans c1, (hb.cell (p := ⟨b, _, none⟩) hl).trans c2, (hb.cell (p := ⟨b, _, none⟩) hl).trans c3, (hb.cell (p := ⟨b, _, none⟩) hl).trans c4, hs⟩⟩
/-- The cells of the first m. -/
def cvX (C R K V : Nat → Int) (S : Nat → ByteArray) (m : Nat) : List Value := (List.range m).flatMap fun i => [.int .i64 (C i), .int .i64 (R i), .int .i64 (K i), .int .i64 (V i), .string (S i)]
theorem cvX_succ (C R K V : Nat → Int) (S : Nat → ByteArray) (m : Nat) : cvX C R K V S (m + 1) = cvX C R K V S m ++ [.int .i64 (C m), .int .i64 (R m), .int .i64 (K m), .int .i64 (V m), .string (S m)] := by
  simp [cvX, List.range_succ, List.flatMap_append]
theorem cvX_len (C R K V : Nat → Int) (S : Nat → ByteArray) (m : Nat) : (cvX C R K V S m).length = m * 5 := by
  induction m with
  | zero => rfl
  | succ m ih => rw [cvX_succ, List.length_append, ih]; simp; omega
theorem cvX_at (C R K V : Nat → Int) (S : Nat → ByteArray) (m i j : Nat) (hi : i < m) (hj : j < 5) :
    (cvX C R K V S m)[i * 5 + j]? = [Value.int .i64 (C i), .int .i64 (R i), .int .i64 (K i), .int .i64 (V i), .string (S i)][j]? := by
  induction m with
  | zero => omega
  | succ m ih =>
    rw [cvX_succ]
    have hl := cvX_len C R K V S m
    by_cases h : i < m
    · rw [List.getElem?_append_left (by omega)]
      exact ih h
    · obtain rfl : i = m := by omega
      rw [List.getElem?_append_right (by omega), hl]
      congr 1
      omega

set_option maxHeartbeats 400000 in
theorem laws_szCellValue (c r k n : Int) (s : ByteArray) (l : Int) (w : World) (hs : s.size ≤ maxLen) (h0 : 0 ≤ l) (h1 : l ≤ 1048576) : Calls Try.prog 38 #[.agg #[.int .i64 c, .int .i64 r, .int .i64 k, .int .i64 n, .string s], .int .i64 l] w fun e w' =>
    e = .returned (.int .i64 (szv l s.size)) ∧ Below w.heap.size w w' := by
  have HZ : Hid (szv l s.size < 0 ↔ szv l s.size = -1) := by show _ ↔ _; unfold szv; split <;> omega
  by_cases hz : szv l s.size < 0
  · have he : Hid (szv l s.size = -1) := HZ.out.1 hz
    go_enter Try.func38, Try.ntmps38
    go_wp2_with (go_at_call 11; refine (laws_szValue _ _ _ _ _ hs h0 h1).mono ?_; rintro e w1 ⟨rfl, hb⟩; obtain ⟨hc, hf, hC, hF, hz, hk, l0⟩ := bk1 (w := w) (by go_grown) (by go_size) hb; clear hb)
    go_ret
    exact ⟨ret_int he.out.symm, by go_grown⟩
  · go_enter Try.func38, Try.ntmps38
    go_wp2_with (go_at_call 11; refine (laws_szValue _ _ _ _ _ hs h0 h1).mono ?_; rintro e w1 ⟨rfl, hb⟩; obtain ⟨hc, hf, hC, hF, hz, hk, l0⟩ := bk1 (w := w) (by go_grown) (by go_size) hb; clear hb)
    go_ret
    exact ⟨rfl, by go_grown⟩

set_option maxHeartbeats 400000 in
theorem laws_toCellValue (c r k n : Int) (s : ByteArray) (w : World) : Calls Try.prog 41 #[.agg #[.int .i64 c, .int .i64 r, .int .i64 k, .int .i64 n, .string s]] w fun e w' =>
    e = .returned (.agg #[.int .i64 c, .int .i64 r, .int .i64 k, .int .i64 n, .string s]) ∧ Below w.heap.size w w' := by
  go_enter Try.func41, Try.ntmps41
  go_wp2_with (first
    | (go_at_call 20; refine (laws_toRef _ _ _).mono ?_; rintro e w1 ⟨rfl, hb⟩; obtain ⟨hc, hf, hC, hF, hz, hk, l0, l1, l2⟩ := bk3 (w := w) (by go_grown) (by go_size) hb; clear hb)
    | (go_at_call 12; refine (laws_toValue _ _ _ _).mono ?_; rintro e w1 ⟨rfl, hb⟩; obtain ⟨hc, hf, hC, hF, hz, hk, l0, l1, l2⟩ := bk3 (w := w) (by go_grown) (by go_size) hb; clear hb))
  refine bodyPost_ret (v := .agg #[.int .i64 c, .int .i64 r, .int .i64 k, .int .i64 n, .string s]) ?_ rfl ⟨rfl, by go_grown⟩
  simp (maxDischargeDepth := 9) [results, Try.results41, go_sem, *]

set_option maxHeartbeats 400000 in
theorem laws_eqCellValue (c r k n : Int) (s : ByteArray) (w : World) : Calls Try.prog 44 #[.agg #[.int .i64 c, .int .i64 r, .int .i64 k, .int .i64 n, .string s], .agg #[.int .i64 c, .int .i64 r, .int .i64 k, .int .i64 n, .string s]] w fun e w' =>
    e = .returned (.bool true) ∧ Below w.heap.size w w' := by
  go_enter Try.func44, Try.ntmps44
  go_wp2_with (first
    | (go_at_call 59; refine (laws_eqRef _ _ _).mono ?_; rintro e w1 ⟨rfl, hb⟩; obtain ⟨hc, hf, hC, hF, hz, hk, l0, l1⟩ := bk2 (w := w) (by go_grown) (by go_size) hb; clear hb)
    | (go_at_call 13; refine (laws_eqValue_same _ _ _ _).mono ?_; rintro e w1 ⟨rfl, hb⟩; obtain ⟨hc, hf, hC, hF, hz, hk, l0, l1⟩ := bk2 (w := w) (by go_grown) (by go_size) hb; clear hb))
  go_ret
  exact ⟨rfl, by go_grown⟩
end Go.Proofs.Ythagnaeemipnlaa
