import Derived.Test.YtbkklapkpiogoaaGreatDoorGbh
namespace Go.Proofs.YtbkklapkpiogoaaGreatDoor
open Go.RowKit
set_option linter.unusedSimpArgs false
set_option linter.unusedVariables false

/-! ### A row of statements: Kind, Col, Row, Text, Many of each -/
def MsRow (W : World) (A : Option Addr) (n : Nat) (K C R : Nat → Int) (T : Nat → ByteArray) (M : Nat → Int) : Prop :=
  n ≤ maxLen ∧ ∀ i, i < n → ∃ b o, A = some ⟨b, o, none⟩ ∧ b < W.heap.size ∧ W.cell? ⟨b, o + i * 5, none⟩ = some (.int .i64 (K i)) ∧ W.cell? ⟨b, o + i * 5 + 1, none⟩ = some (.int .i64 (C i)) ∧
    W.cell? ⟨b, o + i * 5 + 2, none⟩ = some (.int .i64 (R i)) ∧ W.cell? ⟨b, o + i * 5 + 3, none⟩ = some (.string (T i)) ∧ W.cell? ⟨b, o + i * 5 + 4, none⟩ = some (.int .i64 (M i)) ∧ (T i).size ≤ maxLen
theorem MsRow.below {W W' : World} {A : Option Addr} {n : Nat} {K C R : Nat → Int} {T : Nat → ByteArray} {M : Nat → Int} (h : MsRow W A n K C R T M) (hb : Below W.heap.size W W') : MsRow W' A n K C R T M :=
  ⟨h.1, fun i hi => by
    obtain ⟨b, o, e, hl, c0, c1, c2, c3, c4, hs⟩ := h.2 i hi
    exact ⟨b, o, e, Nat.lt_of_lt_of_le hl hb.size, (hb.cell (p := ⟨b, _, none⟩) hl).trans c0, (hb.cell (p := ⟨b, _, none⟩) hl).trans c1, (hb.cell (p := ⟨b, _, none⟩) hl).trans c2, (hb.cell (p := ⟨b, _, none⟩) hl).trans c3, (hb.cell (p := ⟨b, _, none⟩) hl).trans c4, hs⟩⟩
/-- The cells of the first m. -/
def msX (K C R : Nat → Int) (T : Nat → ByteArray) (M : Nat → Int) (m : Nat) : List Value := (List.range m).flatMap fun i => [.int .i64 (K i), .int .i64 (C i), .int .i64 (R i), .string (T i), .int .i64 (M i)]
theorem msX_succ (K C R : Nat → Int) (T : Nat → ByteArray) (M : Nat → Int) (m : Nat) : msX K C R T M (m + 1) = msX K C R T M m ++ [.int .i64 (K m), .int .i64 (C m), .int .i64 (R m), .string (T m), .int .i64 (M m)] := by
  simp [msX, List.range_succ, List.flatMap_append]
theorem msX_len (K C R : Nat → Int) (T : Nat → ByteArray) (M : Nat → Int) (m : Nat) : (msX K C R T M m).length = m * 5 := by
  induction m with
  | zero => rfl
  | succ m ih => rw [msX_succ, List.length_append, ih]; simp; omega
theorem msX_at (K C R : Nat → Int) (T : Nat → ByteArray) (M : Nat → Int) (m i j : Nat) (hi : i < m) (hj : j < 5) :
    (msX K C R T M m)[i * 5 + j]? = [Value.int .i64 (K i), .int .i64 (C i), .int .i64 (R i), .string (T i), .int .i64 (M i)][j]? := by
  induction m with
  | zero => omega
  | succ m ih =>
    rw [msX_succ]
    have hl := msX_len K C R T M m
    by_cases h : i < m
    · rw [List.getElem?_append_left (by omega)]
      exact ih h
    · obtain rfl : i = m := by omega
      rw [List.getElem?_append_right (by omega), hl]
      congr 1
      omega
theorem infoMs : (Tryz.prog.info? 102).map (fun i => (i.zero, i.size, i.bytes)) = some (some (.agg #[.int .i64 0, .int .i64 0, .int .i64 0, .string ⟨#[]⟩, .int .i64 0]), 5, 48) := by kernel_rfl
/-- What a row of the call's own holds, as a row of values. -/
theorem ms_of_own {W : World} {B n : Nat} {A : Option Addr} {cap : Nat} {K C R : Nat → Int} {T : Nat → ByteArray} {M : Nat → Int} (h : W.ownsRow B 102 5 (.slice A n cap) n (msX K C R T M n)) (hs : ∀ i, i < n → (T i).size ≤ maxLen) : MsRow W A n K C R T M := by
  obtain ⟨A', cap', e, hn, hc⟩ := own_shape h
  cases e
  refine ⟨hn, fun i hi => ?_⟩
  obtain ⟨g, rfl, _, hl, c0, _⟩ := hc (i * 5) (by omega)
  obtain ⟨g1, e1, _, _, c1, _⟩ := hc (i * 5 + 1) (by omega)
  obtain ⟨g2, e2, _, _, c2, _⟩ := hc (i * 5 + 2) (by omega)
  obtain ⟨g3, e3, _, _, c3, _⟩ := hc (i * 5 + 3) (by omega)
  obtain ⟨g4, e4, _, _, c4, _⟩ := hc (i * 5 + 4) (by omega)
  cases e1
  cases e2
  cases e3
  cases e4
  refine ⟨g, 0, rfl, hl, ?_, ?_, ?_, ?_, ?_, hs i hi⟩
  · rw [Nat.zero_add, c0]; exact msX_at K C R T M n i 0 hi (by omega)
  · rw [Nat.zero_add, c1]; exact msX_at K C R T M n i 1 hi (by omega)
  · rw [Nat.zero_add, c2]; exact msX_at K C R T M n i 2 hi (by omega)
  · rw [Nat.zero_add]; exact c3.trans (msX_at K C R T M n i 3 hi (by omega))
  · rw [Nat.zero_add]; exact c4.trans (msX_at K C R T M n i 4 hi (by omega))
/-- Five stores into an element of a row that holds, up to it, what it shall hold. -/
theorem own_fiveM {W : World} {B g n cap t : Nat} {ys : List Value} {K C R : Nat → Int} {T : Nat → ByteArray} {M : Nat → Int} (h : W.ownsRow B 102 5 (.slice (some ⟨g, 0, none⟩) n cap) n ys) (ht : t < n) (hy : ∀ j, j < t * 5 → ys[j]? = (msX K C R T M n)[j]?) :
    ∃ zs, (((((W.setCell ⟨g, t * 5, none⟩ (.int .i64 (K t))).setCell ⟨g, t * 5 + 1, none⟩ (.int .i64 (C t))).setCell ⟨g, t * 5 + 2, none⟩ (.int .i64 (R t))).setCell ⟨g, t * 5 + 3, none⟩ (.string (T t))).setCell ⟨g, t * 5 + 4, none⟩ (.int .i64 (M t))).ownsRow B 102 5 (.slice (some ⟨g, 0, none⟩) n cap) n zs ∧
      (∀ j, j < (t + 1) * 5 → zs[j]? = (msX K C R T M n)[j]?) ∧ W.grownBy (((((W.setCell ⟨g, t * 5, none⟩ (.int .i64 (K t))).setCell ⟨g, t * 5 + 1, none⟩ (.int .i64 (C t))).setCell ⟨g, t * 5 + 2, none⟩ (.int .i64 (R t))).setCell ⟨g, t * 5 + 3, none⟩ (.string (T t))).setCell ⟨g, t * 5 + 4, none⟩ (.int .i64 (M t))) (some g) := by
  obtain ⟨o1, g1⟩ := h.stored (t * 5) (.int .i64 (K t))
  obtain ⟨o2, g2⟩ := o1.stored (t * 5 + 1) (.int .i64 (C t))
  obtain ⟨o3, g3⟩ := o2.stored (t * 5 + 2) (.int .i64 (R t))
  obtain ⟨o4, g4⟩ := o3.stored (t * 5 + 3) (.string (T t))
  obtain ⟨o5, g5⟩ := o4.stored (t * 5 + 4) (.int .i64 (M t))
  refine ⟨_, o5, fun j hj => ?_, grown_trans (grown_trans (grown_trans (grown_trans g1 g2) g3) g4) g5⟩
  have hl := h.1
  by_cases e4 : t * 5 + 4 = j
  · subst e4
    rw [List.getElem?_set_self (by simp; omega), msX_at K C R T M n t 4 ht (by omega)]; rfl
  rw [List.getElem?_set_ne e4]
  by_cases e3 : t * 5 + 3 = j
  · subst e3
    rw [List.getElem?_set_self (by simp; omega), msX_at K C R T M n t 3 ht (by omega)]; rfl
  rw [List.getElem?_set_ne e3]
  by_cases e2 : t * 5 + 2 = j
  · subst e2
    rw [List.getElem?_set_self (by simp; omega), msX_at K C R T M n t 2 ht (by omega)]; rfl
  rw [List.getElem?_set_ne e2]
  by_cases e1 : t * 5 + 1 = j
  · subst e1
    rw [List.getElem?_set_self (by simp; omega), msX_at K C R T M n t 1 ht (by omega)]; rfl
  rw [List.getElem?_set_ne e1]
  by_cases e0 : t * 5 = j
  · subst e0
    rw [List.getElem?_set_self (by omega)]
    exact (msX_at K C R T M n t 0 ht (by omega)).symm
  rw [List.getElem?_set_ne e0]
  exact hy j (by omega)
theorem ms_rows_eq {n : Nat} {ys : List Value} {K C R : Nat → Int} {T : Nat → ByteArray} {M : Nat → Int} (hl : ys.length = n * 5) (hy : ∀ j, j < n * 5 → ys[j]? = (msX K C R T M n)[j]?) : ys = msX K C R T M n := by
  apply List.ext_getElem?
  intro j
  by_cases h : j < n * 5
  · exact hy j h
  · rw [List.getElem?_eq_none (by omega), List.getElem?_eq_none (by rw [msX_len]; omega)]

set_option maxRecDepth 100000 in
set_option maxHeartbeats 400000 in
theorem laws_szStmt (k c r : Int) (s : ByteArray) (m : Int) (l : Int) (w : World) (hs : s.size ≤ maxLen) (h0 : 0 ≤ l) (h1 : l ≤ 1048576) : Calls Tryz.prog 68 #[.agg #[.int .i64 k, .int .i64 c, .int .i64 r, .string s, .int .i64 m], .int .i64 l] w fun e w' =>
    e = .returned (.int .i64 (szv l s.size)) ∧ Below w.heap.size w w' := by
  unfold maxLen at hs
  by_cases hz : l - (s.size : Int) < 0
  · have he : Hid (szv l s.size = -1) := by show _ = _; unfold szv; rw [if_pos hz]
    go_enter Tryz.func68, Tryz.ntmps68
    go_wp2_with fail
    go_ret
    exact ⟨ret_int he.out.symm, by go_grown⟩
  · have he : Hid (szv l s.size = l - (s.size : Int)) := by show _ = _; unfold szv; rw [if_neg hz]
    go_enter Tryz.func68, Tryz.ntmps68
    go_wp2_with fail
    go_ret
    exact ⟨ret_int he.out.symm, by go_grown⟩
set_option maxRecDepth 100000 in
set_option maxHeartbeats 4000000 in
theorem laws_toStmt (k c r : Int) (s : ByteArray) (m : Int) (w : World) : Calls Tryz.prog 71 #[.agg #[.int .i64 k, .int .i64 c, .int .i64 r, .string s, .int .i64 m]] w fun e w' =>
    e = .returned (.agg #[.int .i64 k, .int .i64 c, .int .i64 r, .string s, .int .i64 m]) ∧ Below w.heap.size w w' := by
  go_enter Tryz.func71, Tryz.ntmps71
  go_wp2_with (first
    | (go_at_call 23; refine (laws_toRef _ _ _).mono ?_; rintro e w1 ⟨rfl, hb⟩; obtain ⟨hc, hf, hC, hF, hz, hk, l0, l1, l2⟩ := bk3 (w := w) (by go_grown) (by go_size) hb; clear hb))
  refine bodyPost_ret (v := .agg #[.int .i64 k, .int .i64 c, .int .i64 r, .string s, .int .i64 m]) ?_ rfl ⟨rfl, by go_grown⟩
  simp (maxDischargeDepth := 9) [results, Tryz.results71, go_sem, *]
set_option maxRecDepth 100000 in
set_option maxHeartbeats 400000 in
theorem laws_eqStmt (k c r : Int) (s : ByteArray) (m : Int) (w : World) : Calls Tryz.prog 73 #[.agg #[.int .i64 k, .int .i64 c, .int .i64 r, .string s, .int .i64 m], .agg #[.int .i64 k, .int .i64 c, .int .i64 r, .string s, .int .i64 m]] w fun e w' =>
    e = .returned (.bool true) ∧ Below w.heap.size w w' := by
  go_enter Tryz.func73, Tryz.ntmps73
  go_wp2_with (first
    | (go_at_call 110; refine (laws_eqRef _ _ _).mono ?_; rintro e w1 ⟨rfl, hb⟩; obtain ⟨hc, hf, hC, hF, hz, hk, l0, l1⟩ := bk2 (w := w) (by go_grown) (by go_size) hb; clear hb))
  go_ret
  exact ⟨rfl, by go_grown⟩
set_option maxRecDepth 100000 in
set_option maxHeartbeats 2000000 in
theorem laws_toStmtS {A : Option Addr} {n cap : Nat} {K C R : Nat → Int} {T : Nat → ByteArray} {M : Nat → Int} (w : World) (h : MsRow w A n K C R T M) (hn : n ≤ 1048576) :
    Calls Tryz.prog 31 #[.slice A n cap] w fun e w' => ∃ v, e = .returned v ∧ w'.ownsRow w.heap.size 102 5 v n (msX K C R T M n) ∧ Below w.heap.size w w' := by
  have HR : Hid (MsRow w A n K C R T M) := h
  clear h
  obtain ⟨i0, hi, hz0, hz1, hz2⟩ := info_parts infoMs
  go_enter Tryz.func31, Tryz.ntmps31
  go_wp2_with (refine wpList_make_full _ rfl _ _ 56 rfl w.heap.size 102 i0 _ 5 Tryz.underlying56 hi hz0 hz1 _ _ _ _ n rfl rfl rfl rfl ?m1 ?m2 ?m3 ?_)
  case m1 => rw [hz2]; omega
  case m2 => unfold maxLen; omega
  case m3 => exact Nat.le_refl _
  intro w1 hown hgrow
  have hg1 : Below w.heap.size w w1 := (Below.refl _ _).grown hgrow (Nat.le_refl _) (fun k hk => by cases hk)
  obtain ⟨ys, hown⟩ : ∃ ys, w1.ownsRow w.heap.size 102 5 (.slice (some ⟨w.heap.size, 0, none⟩) n n) n ys := ⟨_, hown⟩
  clear hgrow
  have HO : Hid (w1.ownsRow w.heap.size 102 5 (.slice (some ⟨w.heap.size, 0, none⟩) n n) n ys) := hown
  clear hown
  go_wp2_with fail
  go_loopw [4] (fun i wr => ∃ t : Nat, t ≤ n ∧ i = .int .i64 t ∧ (∃ ys, wr.ownsRow w.heap.size 102 5 (.slice (some ⟨w.heap.size, 0, none⟩) n n) n ys ∧ ∀ j, j < t * 5 → ys[j]? = (msX K C R T M n)[j]?) ∧ Below w.heap.size w wr) (fun i _ => n - (intOf i).toNat)
  case atStart => exact ⟨0, Nat.zero_le _, rfl, ⟨ys, HO.out, fun j hj => by omega⟩, hg1⟩
  case round =>
    clear HO hg1
    obtain ⟨t, ht, rfl, ⟨ys, hown, hys⟩, hbel⟩ := hrel
    by_cases hlt : t < n
    · obtain ⟨b, o, rfl, hl, c0, c1, c2, c3, c4, hs⟩ := HR.out.2 t hlt
      rw [← hbel.cell (p := ⟨_, _, none⟩) hl] at c0 c1 c2 c3 c4
      have q0 : (0 : Int) ≤ (t : Int) := by omega
      have q1 : (t : Int) < (n : Int) := by omega
      have HO : Hid (wr.ownsRow w.heap.size 102 5 (.slice (some ⟨w.heap.size, 0, none⟩) n n) n ys) := hown
      have HY : Hid (∀ j, j < t * 5 → ys[j]? = (msX K C R T M n)[j]?) := hys
      have HB : Hid (Below w.heap.size w wr) := hbel
      clear hown hys hbel
      go_wp2_with fail
      refine (laws_toStmt _ _ _ _ _ _).mono ?_
      rintro e w2 ⟨rfl, hb⟩
      have HO2 : Hid (w2.ownsRow w.heap.size 102 5 (.slice (some ⟨w.heap.size, 0, none⟩) n n) n ys) := own_below HO.out hb
      have HB2 : Hid (Below w.heap.size w w2) := bchain HB.out hb
      obtain ⟨A', cap', e, _, hc⟩ := own_shape HO2.out
      cases e
      obtain ⟨g0, e0, _, hg, d0, f0⟩ := hc (t * 5) (by omega)
      obtain ⟨g1, e1, _, _, d1, f1⟩ := hc (t * 5 + 1) (by omega)
      obtain ⟨g2, e2, _, _, d2, f2⟩ := hc (t * 5 + 2) (by omega)
      obtain ⟨g3, e3, _, _, d3, f3⟩ := hc (t * 5 + 3) (by omega)
      obtain ⟨g4, e4, _, _, d4, f4⟩ := hc (t * 5 + 4) (by omega)
      cases e0
      cases e1
      cases e2
      cases e3
      cases e4
      clear hc hb c0 c1 c2 c3 c4 HO HB
      have hl5 := HO2.out.1
      obtain ⟨x0, y0⟩ : ∃ x, ys[t * 5]? = some x := ⟨_, List.getElem?_eq_getElem (by omega)⟩
      obtain ⟨x1, y1⟩ : ∃ x, ys[t * 5 + 1]? = some x := ⟨_, List.getElem?_eq_getElem (by omega)⟩
      obtain ⟨x2, y2⟩ : ∃ x, ys[t * 5 + 2]? = some x := ⟨_, List.getElem?_eq_getElem (by omega)⟩
      obtain ⟨x3, y3⟩ : ∃ x, ys[t * 5 + 3]? = some x := ⟨_, List.getElem?_eq_getElem (by omega)⟩
      obtain ⟨x4, y4⟩ : ∃ x, ys[t * 5 + 4]? = some x := ⟨_, List.getElem?_eq_getElem (by omega)⟩
      rw [y0] at d0
      rw [y1] at d1
      rw [y2] at d2
      rw [y3] at d3
      rw [y4] at d4
      clear y0 y1 y2 y3 y4 hl5
      have HT : Hid (∃ zs, (((((w2.setCell ⟨w.heap.size, t * 5, none⟩ (.int .i64 (K t))).setCell ⟨w.heap.size, t * 5 + 1, none⟩ (.int .i64 (C t))).setCell ⟨w.heap.size, t * 5 + 2, none⟩ (.int .i64 (R t))).setCell ⟨w.heap.size, t * 5 + 3, none⟩ (.string (T t))).setCell ⟨w.heap.size, t * 5 + 4, none⟩ (.int .i64 (M t))).ownsRow w.heap.size 102 5 (.slice (some ⟨w.heap.size, 0, none⟩) n n) n zs ∧
        (∀ j, j < (t + 1) * 5 → zs[j]? = (msX K C R T M n)[j]?) ∧ w2.grownBy (((((w2.setCell ⟨w.heap.size, t * 5, none⟩ (.int .i64 (K t))).setCell ⟨w.heap.size, t * 5 + 1, none⟩ (.int .i64 (C t))).setCell ⟨w.heap.size, t * 5 + 2, none⟩ (.int .i64 (R t))).setCell ⟨w.heap.size, t * 5 + 3, none⟩ (.string (T t))).setCell ⟨w.heap.size, t * 5 + 4, none⟩ (.int .i64 (M t))) (some w.heap.size)) := own_fiveM HO2.out hlt HY.out
      clear HO2 HY
      go_wp2_with fail
      all_goals
        go_roundw
        case rel =>
          obtain ⟨zs, z1, z2, z3⟩ := HT.out
          exact ⟨t + 1, by omega, by simp, ⟨zs, z1, z2⟩, HB2.out.grown z3 HB2.out.size (fun k hk => by cases hk; exact Nat.le_refl _)⟩
        case measure => simp [intOf]; omega
    · have q1 : ¬ (t : Int) < (n : Int) := by omega
      obtain rfl : t = n := by omega
      go_wp2_with fail
      go_ret
      exact ⟨_, rfl, by rw [ms_rows_eq hown.1 hys] at hown; exact hown, hbel⟩
set_option maxRecDepth 100000 in
set_option maxHeartbeats 2000000 in
theorem laws_szStmtS {A : Option Addr} {n cap : Nat} {K C R : Nat → Int} {T : Nat → ByteArray} {M : Nat → Int} (w : World) (h : MsRow w A n K C R T M) :
    Calls Tryz.prog 29 #[.slice A n cap, .int .i64 1048576] w fun e w' => ∃ z : Int, e = .returned (.int .i64 z) ∧ (0 ≤ z → n ≤ 1048576 ∧ ∀ i, i < n → (T i).size ≤ 1048576) ∧ Below w.heap.size w w' := by
  have HR : Hid (MsRow w A n K C R T M) := h
  have hm := h.1
  clear h
  unfold maxLen at hm
  by_cases hbig : (1048576 : Int) - (n : Int) < 0
  · go_enter Tryz.func29, Tryz.ntmps29
    go_wp2_with fail
    go_ret
    exact ⟨-1, rfl, fun h => by omega, by go_grown⟩
  · go_enter Tryz.func29, Tryz.ntmps29
    go_wp2_with fail
    go_loopw [1, 5] (fun l i wr => ∃ (t : Nat) (z : Int), t ≤ n ∧ i = .int .i64 t ∧ l = .int .i64 z ∧ 0 ≤ z ∧ z ≤ 1048576 ∧ (∀ i, i < t → (T i).size ≤ 1048576) ∧ Below w.heap.size w wr) (fun _ i _ => n - (intOf i).toNat)
    case atStart => exact ⟨0, _, Nat.zero_le _, rfl, rfl, by omega, by omega, fun i hi => by omega, Below.refl _ _⟩
    case round =>
      obtain ⟨t, z, ht, rfl, rfl, z0, z1, hall, hbel⟩ := hrel
      have HALL : Hid (∀ i, i < t → (T i).size ≤ 1048576) := hall
      clear hall
      by_cases hlt : t < n
      · obtain ⟨b, o, rfl, hl, c0, c1, c2, c3, c4, hs⟩ := HR.out.2 t hlt
        rw [← hbel.cell (p := ⟨_, _, none⟩) hl] at c0 c1 c2 c3 c4
        have q0 : (0 : Int) ≤ (t : Int) := by omega
        have q1 : (t : Int) < (n : Int) := by omega
        have HB : Hid (Below w.heap.size w wr) := hbel
        clear hbel
        go_wp2_with fail
        refine (laws_szStmt _ _ _ _ _ _ _ hs z0 z1).mono ?_
        rintro e w2 ⟨rfl, hb⟩
        have HB2 : Hid (Below w.heap.size w w2) := bchain HB.out hb
        clear hb c0 c1 c2 c3 c4
        have HZ : Hid (szv z (T t).size ≤ 1048576) := by show _ ≤ _; unfold szv; split <;> omega
        have HY : Hid (¬ szv z (T t).size < 0 → (T t).size ≤ 1048576) := fun h => by unfold szv at h; split at h <;> omega
        by_cases hz : szv z (T t).size < 0
        · go_wp2_with fail
          go_ret
          exact ⟨_, rfl, fun h => by omega, HB2.out⟩
        · go_wp2_with fail
          go_roundw
          case rel => exact ⟨t + 1, _, by omega, by go_num, rfl, by omega, HZ.out, fun i hi => by
            by_cases e : i = t
            · subst e; exact HY.out hz
            · exact HALL.out i (by omega), HB2.out⟩
          case measure => simp [intOf]; omega
      · have q1 : ¬ (t : Int) < (n : Int) := by omega
        go_wp2_with fail
        go_ret
        exact ⟨_, rfl, fun h => ⟨by omega, fun i hi => HALL.out i (by omega)⟩, hbel⟩
set_option maxRecDepth 100000 in
set_option maxHeartbeats 2000000 in
theorem laws_eqStmtS {A A' : Option Addr} {n cap cap' : Nat} {K C R : Nat → Int} {T : Nat → ByteArray} {M : Nat → Int} (w : World) (h : MsRow w A n K C R T M) (h' : MsRow w A' n K C R T M) :
    Calls Tryz.prog 33 #[.slice A n cap, .slice A' n cap'] w fun e w' => e = .returned (.bool true) ∧ Below w.heap.size w w' := by
  have HR : Hid (MsRow w A n K C R T M) := h
  have HR' : Hid (MsRow w A' n K C R T M) := h'
  have hn := h.1
  unfold maxLen at hn
  clear h h'
  go_enter Tryz.func33, Tryz.ntmps33
  go_wp2_with fail
  go_loopw [5] (fun i wr => ∃ k : Nat, k ≤ n ∧ i = .int .i64 k ∧ Below w.heap.size w wr) (fun i _ => n - (intOf i).toNat)
  case atStart => exact ⟨0, Nat.zero_le _, rfl, Below.refl _ _⟩
  case round =>
    obtain ⟨k, hk, rfl, hbel⟩ := hrel
    by_cases hlt : k < n
    · obtain ⟨b, o, rfl, hl, c0, c1, c2, c3, c4, hs⟩ := HR.out.2 k hlt
      obtain ⟨b', o', rfl, hl', c0', c1', c2', c3', c4', _⟩ := HR'.out.2 k hlt
      have hs := hbel.size
      have hW := fun b o h => hbel.cell (p := ⟨b, o, none⟩) h
      have h0 : (0 : Int) ≤ (k : Int) := by omega
      have h1 : (k : Int) < (n : Int) := by omega
      go_wp2_with fail
      go_region_held3 (fun w' => (∀ bq oq, bq < w.heap.size → w'.cell? ⟨bq, oq, none⟩ = w.cell? ⟨bq, oq, none⟩) ∧ w.heap.size ≤ w'.heap.size ∧ Below w.heap.size w w')
        (exact sc_of (Nat.le_refl _) (by go_grown))
        (first
        | (go_at_call 73; refine (laws_eqStmt (K k) (C k) (R k) (T k) (M k) _).mono ?_; rintro e w1 ⟨rfl, hb⟩; obtain ⟨hk1, hz1⟩ := bframe (B := w.heap.size) (X := w) (by go_grown) (by go_size) hb; clear hb))
      all_goals go_wp2_with fail
      all_goals
        go_roundw
        case rel => exact ⟨k + 1, by omega, by go_num, by go_grown⟩
        case measure => simp [intOf]; omega
    · have h1 : ¬ (k : Int) < (n : Int) := by omega
      go_wp2_with fail
      go_ret
      exact ⟨rfl, hbel⟩
end Go.Proofs.YtbkklapkpiogoaaGreatDoor
