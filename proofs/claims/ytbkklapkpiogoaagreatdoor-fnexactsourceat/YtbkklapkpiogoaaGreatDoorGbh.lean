import Derived.Test.YtbkklapkpiogoaaGreatDoorGac
import Derived.Deep.RegionHeld3
import Derived.Test.YtbkklapkpiogoaaGreatDoorGaa
import Derived.Deep.RegionWith
import Derived.Deep.DeepCutAuto
import Derived.Test.YtbkklapkpiogoaaGreatDoorGad
namespace Go.Proofs.YtbkklapkpiogoaaGreatDoor
open Go.RowKit

def sgn (a b : Int) : Int := if a < b then -1 else if b < a then 1 else 0
set_option maxHeartbeats 400000 in
theorem cmp_int (a b : Int) (w : World) : Calls Tryz.prog 154 #[.int .i64 a, .int .i64 b] w fun e w' =>
    e = .returned (.int .i64 (sgn a b)) ∧ w' = w := by
  go_enter Tryz.func154, Tryz.ntmps154
  go_wp2
  all_goals
    go_ret
    refine ⟨ret_int ?_, rfl⟩
    unfold sgn
    (repeat split) <;> omega

theorem sgn_ne {a b : Int} (h : ¬ a = b) : sgn a b = (if decide (a < b) then -1 else if true then 1 else 0) ∧ ¬ sgn a b = 0 := by
  unfold sgn
  by_cases h1 : a < b
  · simp [h1]
  · have h2 : b < a := by omega
    simp [h1, h2]
theorem sgn_self (a : Int) : sgn a a = 0 := by unfold sgn; simp

end Go.Proofs.YtbkklapkpiogoaaGreatDoor
namespace Go.Proofs.YtbkklapkpiogoaaGreatDoor
open Go.RowKit

def or2 (x y : Int) : Int := if x = 0 then y else x

set_option maxHeartbeats 400000 in
theorem cmp_or2 (x y : Int) (b : Nat) (w : World) (c0 : w.cell? ⟨b, 0, none⟩ = some (.int .i64 x)) (c1 : w.cell? ⟨b, 1, none⟩ = some (.int .i64 y)) :
    Calls Tryz.prog 153 #[.slice (some ⟨b, 0, none⟩) 2 2] w fun e w' => e = .returned (.int .i64 (or2 x y)) ∧ w' = w := by
  by_cases hx : x = 0
  · subst hx
    by_cases hy : y = 0
    · subst hy
      go_enter Tryz.func153, Tryz.ntmps153
      go_wp2
      refine wp_loop_rounds 3 ?_
      rw [rounds_succ]
      go_wp2
      rw [rounds_succ]
      go_wp2
      rw [rounds_succ]
      go_wp2
      go_ret
      exact ⟨rfl, rfl⟩
    · have hq : (y != 0) = true := by simpa using hy
      go_enter Tryz.func153, Tryz.ntmps153
      go_wp2
      refine wp_loop_rounds 3 ?_
      rw [rounds_succ]
      go_wp2
      rw [rounds_succ]
      go_wp2
      go_ret
      exact ⟨rfl, rfl⟩
  · have hq : (x != 0) = true := by simpa using hx
    go_enter Tryz.func153, Tryz.ntmps153
    go_wp2
    refine wp_loop_rounds 3 ?_
    rw [rounds_succ]
    go_wp2
    go_ret
    exact ⟨ret_int (by simp [or2, hx]), rfl⟩

/-- How the program compares two places. -/
def cmpR (c r c' r' : Int) : Int := or2 (sgn r r') (sgn c c')
theorem cmpR_ahead (c r c' r' : Int) : (0 ≤ cmpR c r c' r') ↔ aheadB c r c' r' = false := by
  unfold cmpR or2 aheadB
  have := sgn_self r
  by_cases h : r = r'
  · subst h
    rw [if_pos (sgn_self r)]
    unfold sgn
    by_cases h1 : c < c'
    · simp [h1]
    · by_cases h2 : c' < c
      · simp [h1, h2]
      · simp [h1, h2]
  · rw [if_neg (sgn_ne h).2]
    unfold sgn
    by_cases h1 : r < r'
    · simp [h1]
    · have h2 : r' < r := by omega
      simp [h1, h2, h]

set_option maxHeartbeats 1000000 in
theorem impl_compareRefs (c r c' r' : Int) (w : World) : Calls Tryz.prog 109 #[.agg #[.int .i64 c, .int .i64 r], .agg #[.int .i64 c', .int .i64 r']] w fun e w' =>
    e = .returned (.int .i64 (cmpR c r c' r')) ∧ Below w.heap.size w w' := by
  go_enter Tryz.func109, Tryz.ntmps109
  go_wp2_with fail
  go_region_held3 (fun w' => (∀ bq oq, bq < w.heap.size + 2 → w'.cell? ⟨bq, oq, none⟩ = ((w.alloc (.cells #[.int .i64 c, .int .i64 r] 47)).alloc (.cells #[.int .i64 c', .int .i64 r'] 47)).cell? ⟨bq, oq, none⟩) ∧ w.heap.size + 2 ≤ w'.heap.size ∧ Below (w.heap.size + 2) ((w.alloc (.cells #[.int .i64 c, .int .i64 r] 47)).alloc (.cells #[.int .i64 c', .int .i64 r'] 47)) w')
    (exact sc_of (by go_size) (by go_grown))
    (first
    | (go_at_call 154; refine (cmp_int _ _ _).mono ?_; rintro e w1 ⟨rfl, rfl⟩)
    | (go_at_call 153; refine (cmp_or2 (sgn r r') (sgn c c') _ _ ?_ ?_).mono ?_; (focus (go_simp; done)); (focus (go_simp; done)); rintro e w1 ⟨rfl, rfl⟩))
  all_goals go_wp2_with fail
  all_goals
    go_ret
    exact ⟨rfl, bfin (n := 2) (X := ((w.alloc (.cells #[.int .i64 c, .int .i64 r] 47)).alloc (.cells #[.int .i64 c', .int .i64 r'] 47))) (by go_grown) (by go_grown)⟩

end Go.Proofs.YtbkklapkpiogoaaGreatDoor
namespace Go.Proofs.YtbkklapkpiogoaaGreatDoor
open Go.RowKit
set_option linter.unusedSimpArgs false
set_option linter.unusedVariables false

/-! ### A row of cells: Col, Row, Source of each -/
def ClRow (W : World) (A : Option Addr) (n : Nat) (C R : Nat → Int) (S : Nat → ByteArray) : Prop :=
  n ≤ maxLen ∧ ∀ i, i < n → ∃ b o, A = some ⟨b, o, none⟩ ∧ b < W.heap.size ∧ W.cell? ⟨b, o + i * 3, none⟩ = some (.int .i64 (C i)) ∧ W.cell? ⟨b, o + i * 3 + 1, none⟩ = some (.int .i64 (R i)) ∧
    W.cell? ⟨b, o + i * 3 + 2, none⟩ = some (.string (S i)) ∧ (S i).size ≤ maxLen
theorem ClRow.below {W W' : World} {A : Option Addr} {n : Nat} {C R : Nat → Int} {S : Nat → ByteArray} (h : ClRow W A n C R S) (hb : Below W.heap.size W W') : ClRow W' A n C R S :=
  ⟨h.1, fun i hi => by
    obtain ⟨b, o, e, hl, c0, c1, c2, hs⟩ := h.2 i hi
    exact ⟨b, o, e, Nat.lt_of_lt_of_le hl hb.size, (hb.cell (p := ⟨b, _, none⟩) hl).trans c0, (hb.cell (p := ⟨b, _, none⟩) hl).trans c1, (hb.cell (p := ⟨b, _, none⟩) hl).trans c2, hs⟩⟩
/-- The cells of the first m. -/
def clX (C R : Nat → Int) (S : Nat → ByteArray) (m : Nat) : List Value := (List.range m).flatMap fun i => [.int .i64 (C i), .int .i64 (R i), .string (S i)]
theorem clX_succ (C R : Nat → Int) (S : Nat → ByteArray) (m : Nat) : clX C R S (m + 1) = clX C R S m ++ [.int .i64 (C m), .int .i64 (R m), .string (S m)] := by
  simp [clX, List.range_succ, List.flatMap_append]
theorem clX_len (C R : Nat → Int) (S : Nat → ByteArray) (m : Nat) : (clX C R S m).length = m * 3 := by
  induction m with
  | zero => rfl
  | succ m ih => rw [clX_succ, List.length_append, ih]; simp; omega
theorem clX_at (C R : Nat → Int) (S : Nat → ByteArray) (m i j : Nat) (hi : i < m) (hj : j < 3) :
    (clX C R S m)[i * 3 + j]? = [Value.int .i64 (C i), .int .i64 (R i), .string (S i)][j]? := by
  induction m with
  | zero => omega
  | succ m ih =>
    rw [clX_succ]
    have hl := clX_len C R S m
    by_cases h : i < m
    · rw [List.getElem?_append_left (by omega)]
      exact ih h
    · obtain rfl : i = m := by omega
      rw [List.getElem?_append_right (by omega), hl]
      congr 1
      omega
theorem infoCl : (Tryz.prog.info? 84).map (fun i => (i.zero, i.size, i.bytes)) = some (some (.agg #[.int .i64 0, .int .i64 0, .string ⟨#[]⟩]), 3, 32) := by kernel_rfl
theorem cl_of_own {W : World} {B n : Nat} {A : Option Addr} {cap : Nat} {C R : Nat → Int} {S : Nat → ByteArray} (h : W.ownsRow B 84 3 (.slice A n cap) n (clX C R S n)) (hs : ∀ i, i < n → (S i).size ≤ maxLen) : ClRow W A n C R S := by
  obtain ⟨A', cap', e, hn, hc⟩ := own_shape h
  cases e
  refine ⟨hn, fun i hi => ?_⟩
  obtain ⟨g, rfl, _, hl, c0, _⟩ := hc (i * 3) (by omega)
  obtain ⟨g1, e1, _, _, c1, _⟩ := hc (i * 3 + 1) (by omega)
  obtain ⟨g2, e2, _, _, c2, _⟩ := hc (i * 3 + 2) (by omega)
  cases e1
  cases e2
  refine ⟨g, 0, rfl, hl, ?_, ?_, ?_, hs i hi⟩
  · rw [Nat.zero_add, c0]; exact clX_at C R S n i 0 hi (by omega)
  · rw [Nat.zero_add, c1]; exact clX_at C R S n i 1 hi (by omega)
  · rw [Nat.zero_add, c2]; exact clX_at C R S n i 2 hi (by omega)
theorem own_three {W : World} {B g n cap t : Nat} {ys : List Value} {C R : Nat → Int} {S : Nat → ByteArray} (h : W.ownsRow B 84 3 (.slice (some ⟨g, 0, none⟩) n cap) n ys) (ht : t < n) (hy : ∀ j, j < t * 3 → ys[j]? = (clX C R S n)[j]?) :
    ∃ zs, (((W.setCell ⟨g, t * 3, none⟩ (.int .i64 (C t))).setCell ⟨g, t * 3 + 1, none⟩ (.int .i64 (R t))).setCell ⟨g, t * 3 + 2, none⟩ (.string (S t))).ownsRow B 84 3 (.slice (some ⟨g, 0, none⟩) n cap) n zs ∧
      (∀ j, j < (t + 1) * 3 → zs[j]? = (clX C R S n)[j]?) ∧ W.grownBy (((W.setCell ⟨g, t * 3, none⟩ (.int .i64 (C t))).setCell ⟨g, t * 3 + 1, none⟩ (.int .i64 (R t))).setCell ⟨g, t * 3 + 2, none⟩ (.string (S t))) (some g) := by
  obtain ⟨o1, g1⟩ := h.stored (t * 3) (.int .i64 (C t))
  obtain ⟨o2, g2⟩ := o1.stored (t * 3 + 1) (.int .i64 (R t))
  obtain ⟨o3, g3⟩ := o2.stored (t * 3 + 2) (.string (S t))
  refine ⟨_, o3, fun j hj => ?_, grown_trans (grown_trans g1 g2) g3⟩
  have hl := h.1
  by_cases e2 : t * 3 + 2 = j
  · subst e2
    rw [List.getElem?_set_self (by simp; omega), clX_at C R S n t 2 ht (by omega)]; rfl
  rw [List.getElem?_set_ne e2]
  by_cases e1 : t * 3 + 1 = j
  · subst e1
    rw [List.getElem?_set_self (by simp; omega), clX_at C R S n t 1 ht (by omega)]; rfl
  rw [List.getElem?_set_ne e1]
  by_cases e0 : t * 3 = j
  · subst e0
    rw [List.getElem?_set_self (by omega)]
    exact (clX_at C R S n t 0 ht (by omega)).symm
  rw [List.getElem?_set_ne e0]
  exact hy j (by omega)
theorem cl_rows_eq {n : Nat} {ys : List Value} {C R : Nat → Int} {S : Nat → ByteArray} (hl : ys.length = n * 3) (hy : ∀ j, j < n * 3 → ys[j]? = (clX C R S n)[j]?) : ys = clX C R S n := by
  apply List.ext_getElem?
  intro j
  by_cases h : j < n * 3
  · exact hy j h
  · rw [List.getElem?_eq_none (by omega), List.getElem?_eq_none (by rw [clX_len]; omega)]

set_option maxRecDepth 100000 in
set_option maxHeartbeats 400000 in
theorem laws_szCell (c r : Int) (s : ByteArray) (l : Int) (w : World) (hs : s.size ≤ maxLen) (h0 : 0 ≤ l) (h1 : l ≤ 1048576) : Calls Tryz.prog 53 #[.agg #[.int .i64 c, .int .i64 r, .string s], .int .i64 l] w fun e w' =>
    e = .returned (.int .i64 (szv l s.size)) ∧ Below w.heap.size w w' := by
  unfold maxLen at hs
  by_cases hz : l - (s.size : Int) < 0
  · have he : Hid (szv l s.size = -1) := by show _ = _; unfold szv; rw [if_pos hz]
    go_enter Tryz.func53, Tryz.ntmps53
    go_wp2_with fail
    go_ret
    exact ⟨ret_int he.out.symm, by go_grown⟩
  · have he : Hid (szv l s.size = l - (s.size : Int)) := by show _ = _; unfold szv; rw [if_neg hz]
    go_enter Tryz.func53, Tryz.ntmps53
    go_wp2_with fail
    go_ret
    exact ⟨ret_int he.out.symm, by go_grown⟩
set_option maxRecDepth 100000 in
set_option maxHeartbeats 400000 in
theorem laws_toCell (c r : Int) (s : ByteArray) (w : World) : Calls Tryz.prog 56 #[.agg #[.int .i64 c, .int .i64 r, .string s]] w fun e w' =>
    e = .returned (.agg #[.int .i64 c, .int .i64 r, .string s]) ∧ Below w.heap.size w w' := by
  go_enter Tryz.func56, Tryz.ntmps56
  go_wp2_with (first
    | (go_at_call 23; refine (laws_toRef _ _ _).mono ?_; rintro e w1 ⟨rfl, hb⟩; obtain ⟨hc, hf, hC, hF, hz, hk, l0, l1, l2⟩ := bk3 (w := w) (by go_grown) (by go_size) hb; clear hb))
  refine bodyPost_ret (v := .agg #[.int .i64 c, .int .i64 r, .string s]) ?_ rfl ⟨rfl, by go_grown⟩
  simp (maxDischargeDepth := 9) [results, Tryz.results56, go_sem, *]
set_option maxRecDepth 100000 in
set_option maxHeartbeats 400000 in
theorem laws_eqCell (c r : Int) (s : ByteArray) (w : World) : Calls Tryz.prog 60 #[.agg #[.int .i64 c, .int .i64 r, .string s], .agg #[.int .i64 c, .int .i64 r, .string s]] w fun e w' =>
    e = .returned (.bool true) ∧ Below w.heap.size w w' := by
  go_enter Tryz.func60, Tryz.ntmps60
  go_wp2_with (first
    | (go_at_call 110; refine (laws_eqRef _ _ _).mono ?_; rintro e w1 ⟨rfl, hb⟩; obtain ⟨hc, hf, hC, hF, hz, hk, l0, l1⟩ := bk2 (w := w) (by go_grown) (by go_size) hb; clear hb))
  go_ret
  exact ⟨rfl, by go_grown⟩
set_option maxRecDepth 100000 in
set_option maxHeartbeats 400000 in
theorem impl_cellPlace (c r : Int) (s : ByteArray) (w : World) : Calls Tryz.prog 58 #[.agg #[.int .i64 c, .int .i64 r, .string s]] w fun e w' =>
    e = .returned (.agg #[.int .i64 c, .int .i64 r]) ∧ Below w.heap.size w w' := by
  go_enter Tryz.func58, Tryz.ntmps58
  go_wp2
  go_returns
  exact ⟨rfl, by go_grown⟩
set_option maxRecDepth 100000 in
set_option maxHeartbeats 2000000 in
theorem laws_toCellS {A : Option Addr} {n cap : Nat} {C R : Nat → Int} {S : Nat → ByteArray} (w : World) (h : ClRow w A n C R S) (hn : n ≤ 1048576) :
    Calls Tryz.prog 19 #[.slice A n cap] w fun e w' => ∃ v, e = .returned v ∧ w'.ownsRow w.heap.size 84 3 v n (clX C R S n) ∧ Below w.heap.size w w' := by
  have HR : Hid (ClRow w A n C R S) := h
  clear h
  obtain ⟨i0, hi, hz0, hz1, hz2⟩ := info_parts infoCl
  go_enter Tryz.func19, Tryz.ntmps19
  go_wp2_with (refine wpList_make_full _ rfl _ _ 39 rfl w.heap.size 84 i0 _ 3 Tryz.underlying39 hi hz0 hz1 _ _ _ _ n rfl rfl rfl rfl ?m1 ?m2 ?m3 ?_)
  case m1 => rw [hz2]; omega
  case m2 => unfold maxLen; omega
  case m3 => exact Nat.le_refl _
  intro w1 hown hgrow
  have hg1 : Below w.heap.size w w1 := (Below.refl _ _).grown hgrow (Nat.le_refl _) (fun k hk => by cases hk)
  obtain ⟨ys, hown⟩ : ∃ ys, w1.ownsRow w.heap.size 84 3 (.slice (some ⟨w.heap.size, 0, none⟩) n n) n ys := ⟨_, hown⟩
  clear hgrow
  have HO : Hid (w1.ownsRow w.heap.size 84 3 (.slice (some ⟨w.heap.size, 0, none⟩) n n) n ys) := hown
  clear hown
  go_wp2_with fail
  go_loopw [4] (fun i wr => ∃ t : Nat, t ≤ n ∧ i = .int .i64 t ∧ (∃ ys, wr.ownsRow w.heap.size 84 3 (.slice (some ⟨w.heap.size, 0, none⟩) n n) n ys ∧ ∀ j, j < t * 3 → ys[j]? = (clX C R S n)[j]?) ∧ Below w.heap.size w wr) (fun i _ => n - (intOf i).toNat)
  case atStart => exact ⟨0, Nat.zero_le _, rfl, ⟨ys, HO.out, fun j hj => by omega⟩, hg1⟩
  case round =>
    clear HO hg1
    obtain ⟨t, ht, rfl, ⟨ys, hown, hys⟩, hbel⟩ := hrel
    by_cases hlt : t < n
    · obtain ⟨b, o, rfl, hl, c0, c1, c2, hs⟩ := HR.out.2 t hlt
      rw [← hbel.cell (p := ⟨_, _, none⟩) hl] at c0 c1 c2
      have q0 : (0 : Int) ≤ (t : Int) := by omega
      have q1 : (t : Int) < (n : Int) := by omega
      have HO : Hid (wr.ownsRow w.heap.size 84 3 (.slice (some ⟨w.heap.size, 0, none⟩) n n) n ys) := hown
      have HY : Hid (∀ j, j < t * 3 → ys[j]? = (clX C R S n)[j]?) := hys
      have HB : Hid (Below w.heap.size w wr) := hbel
      clear hown hys hbel
      go_wp2_with fail
      refine (laws_toCell _ _ _ _).mono ?_
      rintro e w2 ⟨rfl, hb⟩
      have HO2 : Hid (w2.ownsRow w.heap.size 84 3 (.slice (some ⟨w.heap.size, 0, none⟩) n n) n ys) := own_below HO.out hb
      have HB2 : Hid (Below w.heap.size w w2) := bchain HB.out hb
      obtain ⟨A', cap', e, _, hc⟩ := own_shape HO2.out
      cases e
      obtain ⟨g0, e0, _, hg, d0, f0⟩ := hc (t * 3) (by omega)
      obtain ⟨g1, e1, _, _, d1, f1⟩ := hc (t * 3 + 1) (by omega)
      obtain ⟨g2, e2, _, _, d2, f2⟩ := hc (t * 3 + 2) (by omega)
      cases e0
      cases e1
      cases e2
      clear hc hb c0 c1 c2 HO HB
      have hl5 := HO2.out.1
      obtain ⟨x0, y0⟩ : ∃ x, ys[t * 3]? = some x := ⟨_, List.getElem?_eq_getElem (by omega)⟩
      obtain ⟨x1, y1⟩ : ∃ x, ys[t * 3 + 1]? = some x := ⟨_, List.getElem?_eq_getElem (by omega)⟩
      obtain ⟨x2, y2⟩ : ∃ x, ys[t * 3 + 2]? = some x := ⟨_, List.getElem?_eq_getElem (by omega)⟩
      rw [y0] at d0
      rw [y1] at d1
      rw [y2] at d2
      clear y0 y1 y2 hl5
      have HT : Hid (∃ zs, (((w2.setCell ⟨w.heap.size, t * 3, none⟩ (.int .i64 (C t))).setCell ⟨w.heap.size, t * 3 + 1, none⟩ (.int .i64 (R t))).setCell ⟨w.heap.size, t * 3 + 2, none⟩ (.string (S t))).ownsRow w.heap.size 84 3 (.slice (some ⟨w.heap.size, 0, none⟩) n n) n zs ∧
        (∀ j, j < (t + 1) * 3 → zs[j]? = (clX C R S n)[j]?) ∧ w2.grownBy (((w2.setCell ⟨w.heap.size, t * 3, none⟩ (.int .i64 (C t))).setCell ⟨w.heap.size, t * 3 + 1, none⟩ (.int .i64 (R t))).setCell ⟨w.heap.size, t * 3 + 2, none⟩ (.string (S t))) (some w.heap.size)) := own_three HO2.out hlt HY.out
      clear HO2 HY
      go_wp2_with fail
      all_goals
        go_roundw
        case rel =>
          obtain ⟨zs, z1, z2, z3⟩ := HT.out
          exact ⟨t + 1, by omega, by simp, ⟨zs, z1, z2⟩, HB2.out.grown z3 HB2.out.size (fun k hk => by cases hk; exact Nat.le_refl _)⟩
        case measure => simp [intOf]; omega
    · have q1 : ¬ (t : Int) < (n : Int) := by omega
      obtain rfl : t = n := by omega
      go_wp2_with fail
      go_ret
      exact ⟨_, rfl, by rw [cl_rows_eq hown.1 hys] at hown; exact hown, hbel⟩
set_option maxRecDepth 100000 in
set_option maxHeartbeats 2000000 in
theorem laws_szCellS {A : Option Addr} {n cap : Nat} {C R : Nat → Int} {S : Nat → ByteArray} (w : World) (h : ClRow w A n C R S) :
    Calls Tryz.prog 17 #[.slice A n cap, .int .i64 1048576] w fun e w' => ∃ z : Int, e = .returned (.int .i64 z) ∧ (0 ≤ z → n ≤ 1048576) ∧ Below w.heap.size w w' := by
  have HR : Hid (ClRow w A n C R S) := h
  have hm := h.1
  clear h
  unfold maxLen at hm
  by_cases hbig : (1048576 : Int) - (n : Int) < 0
  · go_enter Tryz.func17, Tryz.ntmps17
    go_wp2_with fail
    go_ret
    exact ⟨-1, rfl, fun h => by omega, by go_grown⟩
  · go_enter Tryz.func17, Tryz.ntmps17
    go_wp2_with fail
    go_loopw [1, 5] (fun l i wr => ∃ (t : Nat) (z : Int), t ≤ n ∧ i = .int .i64 t ∧ l = .int .i64 z ∧ 0 ≤ z ∧ z ≤ 1048576 ∧ Below w.heap.size w wr) (fun _ i _ => n - (intOf i).toNat)
    case atStart => exact ⟨0, _, Nat.zero_le _, rfl, rfl, by omega, by omega, Below.refl _ _⟩
    case round =>
      obtain ⟨t, z, ht, rfl, rfl, z0, z1, hbel⟩ := hrel
      by_cases hlt : t < n
      · obtain ⟨b, o, rfl, hl, c0, c1, c2, hs⟩ := HR.out.2 t hlt
        rw [← hbel.cell (p := ⟨_, _, none⟩) hl] at c0 c1 c2
        have q0 : (0 : Int) ≤ (t : Int) := by omega
        have q1 : (t : Int) < (n : Int) := by omega
        have HB : Hid (Below w.heap.size w wr) := hbel
        clear hbel
        go_wp2_with fail
        refine (laws_szCell _ _ _ _ _ hs z0 z1).mono ?_
        rintro e w2 ⟨rfl, hb⟩
        have HB2 : Hid (Below w.heap.size w w2) := bchain HB.out hb
        clear hb c0 c1 c2
        have HZ : Hid (szv z (S t).size ≤ 1048576) := by show _ ≤ _; unfold szv; split <;> omega
        by_cases hz : szv z (S t).size < 0
        · go_wp2_with fail
          go_ret
          exact ⟨_, rfl, fun h => by omega, HB2.out⟩
        · go_wp2_with fail
          go_roundw
          case rel => exact ⟨t + 1, _, by omega, by go_num, rfl, by omega, HZ.out, HB2.out⟩
          case measure => simp [intOf]; omega
      · have q1 : ¬ (t : Int) < (n : Int) := by omega
        go_wp2_with fail
        go_ret
        exact ⟨_, rfl, fun h => by omega, hbel⟩
set_option maxRecDepth 100000 in
set_option maxHeartbeats 2000000 in
theorem laws_eqCellS {A A' : Option Addr} {n cap cap' : Nat} {C R : Nat → Int} {S : Nat → ByteArray} (w : World) (h : ClRow w A n C R S) (h' : ClRow w A' n C R S) :
    Calls Tryz.prog 21 #[.slice A n cap, .slice A' n cap'] w fun e w' => e = .returned (.bool true) ∧ Below w.heap.size w w' := by
  have HR : Hid (ClRow w A n C R S) := h
  have HR' : Hid (ClRow w A' n C R S) := h'
  have hn := h.1
  unfold maxLen at hn
  clear h h'
  go_enter Tryz.func21, Tryz.ntmps21
  go_wp2_with fail
  go_loopw [5] (fun i wr => ∃ k : Nat, k ≤ n ∧ i = .int .i64 k ∧ Below w.heap.size w wr) (fun i _ => n - (intOf i).toNat)
  case atStart => exact ⟨0, Nat.zero_le _, rfl, Below.refl _ _⟩
  case round =>
    obtain ⟨k, hk, rfl, hbel⟩ := hrel
    by_cases hlt : k < n
    · obtain ⟨b, o, rfl, hl, c0, c1, c2, hs⟩ := HR.out.2 k hlt
      obtain ⟨b', o', rfl, hl', c0', c1', c2', _⟩ := HR'.out.2 k hlt
      have hs := hbel.size
      have hW := fun b o h => hbel.cell (p := ⟨b, o, none⟩) h
      have h0 : (0 : Int) ≤ (k : Int) := by omega
      have h1 : (k : Int) < (n : Int) := by omega
      go_wp2_with fail
      go_region_held3 (fun w' => (∀ bq oq, bq < w.heap.size → w'.cell? ⟨bq, oq, none⟩ = w.cell? ⟨bq, oq, none⟩) ∧ w.heap.size ≤ w'.heap.size ∧ Below w.heap.size w w')
        (exact sc_of (Nat.le_refl _) (by go_grown))
        (first
        | (go_at_call 60; refine (laws_eqCell (C k) (R k) (S k) _).mono ?_; rintro e w1 ⟨rfl, hb⟩; obtain ⟨hk1, hz1⟩ := bframe (B := w.heap.size) (X := w) (by go_grown) (by go_size) hb; clear hb))
      all_goals go_wp2_with fail
      all_goals
        go_roundw
        case rel => exact ⟨k + 1, by omega, by go_num, by go_grown⟩
        case measure => simp [intOf]; omega
    · have h1 : ¬ (k : Int) < (n : Int) := by omega
      go_wp2_with fail
      go_ret
      exact ⟨rfl, hbel⟩
end Go.Proofs.YtbkklapkpiogoaaGreatDoor
