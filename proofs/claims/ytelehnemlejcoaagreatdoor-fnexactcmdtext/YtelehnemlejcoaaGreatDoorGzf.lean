import Derived.Test.YtelehnemlejcoaaGreatDoorGze
import Derived.Test.YtelehnemlejcoaaGreatDoorGai
set_option linter.unusedSimpArgs false
set_option linter.unusedVariables false
namespace Go.Proofs.YtelehnemlejcoaaGreatDoor
open Go.RowKit
def MsRow (W : World) (A : Option Addr) (n : Nat) (K C R : Nat → Int) (T : Nat → ByteArray) (M : Nat → Int) : Prop :=
  n ≤ maxLen ∧ ∀ i, i < n → ∃ b o, A = some ⟨b, o, none⟩ ∧ b < W.heap.size ∧ W.cell? ⟨b, o + i * 5, none⟩ = some (.int .i64 (K i)) ∧ W.cell? ⟨b, o + i * 5 + 1, none⟩ = some (.int .i64 (C i)) ∧
    W.cell? ⟨b, o + i * 5 + 2, none⟩ = some (.int .i64 (R i)) ∧ W.cell? ⟨b, o + i * 5 + 3, none⟩ = some (.string (T i)) ∧ W.cell? ⟨b, o + i * 5 + 4, none⟩ = some (.int .i64 (M i)) ∧ (T i).size ≤ maxLen
theorem MsRow.below {W W' : World} {A : Option Addr} {n : Nat} {K C R : Nat → Int} {T : Nat → ByteArray} {M : Nat → Int} (h : MsRow W A n K C R T M) (hb : Below W.heap.size W W') : MsRow W' A n K C R T M :=
  ⟨h.1, fun i hi => by
    obtain ⟨b, o, e, hl, c0, c1, c2, c3, c4, hs⟩ := h.2 i hi
    exact ⟨b, o, e, Nat.lt_of_lt_of_le hl hb.size, (hb.cell (p := ⟨b, _, none⟩) hl).trans c0, (hb.cell (p := ⟨b, _, none⟩) hl).trans c1, (hb.cell (p := ⟨b, _, none⟩) hl).trans c2, (hb.cell (p := ⟨b, _, none⟩) hl).trans c3, (hb.cell (p := ⟨b, _, none⟩) hl).trans c4, hs⟩⟩
def msX (K C R : Nat → Int) (T : Nat → ByteArray) (M : Nat → Int) (m : Nat) : List Value := (List.range m).flatMap fun i => [.int .i64 (K i), .int .i64 (C i), .int .i64 (R i), .string (T i), .int .i64 (M i)]
theorem msX_succ (K C R : Nat → Int) (T : Nat → ByteArray) (M : Nat → Int) (m : Nat) : msX K C R T M (m + 1) = msX K C R T M m ++ [.int .i64 (K m), .int .i64 (C m), .int .i64 (R m), .string (T m), .int .i64 (M m)] := by
  simp [msX, List.range_succ, List.flatMap_append]
theorem msX_len (K C R : Nat → Int) (T : Nat → ByteArray) (M : Nat → Int) (m : Nat) : (msX K C R T M m).length = m * 5 := by
  induction m with
  | zero => rfl
  | succ m ih => rw [msX_succ, List.length_append, ih]; simp; omega
theorem msX_at (K C R : Nat → Int) (T : Nat → ByteArray) (M : Nat → Int) (m i j : Nat) (hi : i < m) (hj : j < 5) :
    (msX K C R T M m)[i * 5 + j]? = [Value.int .i64 (K i), .int .i64 (C i), .int .i64 (R i), .string (T i), .int .i64 (M i)][j]? := by
  induction m with
  | zero => omega
  | succ m ih =>
    rw [msX_succ]
    have hl := msX_len K C R T M m
    by_cases h : i < m
    · rw [List.getElem?_append_left (by omega)]
      exact ih h
    · obtain rfl : i = m := by omega
      rw [List.getElem?_append_right (by omega), hl]
      congr 1
      omega
theorem infoMs : (Tryz.prog.info? 51).map (fun i => (i.zero, i.size, i.bytes)) = some (some (.agg #[.int .i64 0, .int .i64 0, .int .i64 0, .string ⟨#[]⟩, .int .i64 0]), 5, 48) := by kernel_rfl
theorem ms_of_own {W : World} {B n : Nat} {A : Option Addr} {cap : Nat} {K C R : Nat → Int} {T : Nat → ByteArray} {M : Nat → Int} (h : W.ownsRow B 51 5 (.slice A n cap) n (msX K C R T M n)) (hs : ∀ i, i < n → (T i).size ≤ maxLen) : MsRow W A n K C R T M := by
  obtain ⟨A', cap', e, hn, hc⟩ := own_shape h
  cases e
  refine ⟨hn, fun i hi => ?_⟩
  obtain ⟨g, rfl, _, hl, c0, _⟩ := hc (i * 5) (by omega)
  obtain ⟨g1, e1, _, _, c1, _⟩ := hc (i * 5 + 1) (by omega)
  obtain ⟨g2, e2, _, _, c2, _⟩ := hc (i * 5 + 2) (by omega)
  obtain ⟨g3, e3, _, _, c3, _⟩ := hc (i * 5 + 3) (by omega)
  obtain ⟨g4, e4, _, _, c4, _⟩ := hc (i * 5 + 4) (by omega)
  cases e1
  cases e2
  cases e3
  cases e4
  refine ⟨g, 0, rfl, hl, ?_, ?_, ?_, ?_, ?_, hs i hi⟩
  · rw [Nat.zero_add, c0]; exact msX_at K C R T M n i 0 hi (by omega)
  · rw [Nat.zero_add, c1]; exact msX_at K C R T M n i 1 hi (by omega)
  · rw [Nat.zero_add, c2]; exact msX_at K C R T M n i 2 hi (by omega)
  · rw [Nat.zero_add]; exact c3.trans (msX_at K C R T M n i 3 hi (by omega))
  · rw [Nat.zero_add]; exact c4.trans (msX_at K C R T M n i 4 hi (by omega))
theorem own_fiveM {W : World} {B g n cap t : Nat} {ys : List Value} {K C R : Nat → Int} {T : Nat → ByteArray} {M : Nat → Int} (h : W.ownsRow B 51 5 (.slice (some ⟨g, 0, none⟩) n cap) n ys) (ht : t < n) (hy : ∀ j, j < t * 5 → ys[j]? = (msX K C R T M n)[j]?) :
    ∃ zs, (((((W.setCell ⟨g, t * 5, none⟩ (.int .i64 (K t))).setCell ⟨g, t * 5 + 1, none⟩ (.int .i64 (C t))).setCell ⟨g, t * 5 + 2, none⟩ (.int .i64 (R t))).setCell ⟨g, t * 5 + 3, none⟩ (.string (T t))).setCell ⟨g, t * 5 + 4, none⟩ (.int .i64 (M t))).ownsRow B 51 5 (.slice (some ⟨g, 0, none⟩) n cap) n zs ∧
      (∀ j, j < (t + 1) * 5 → zs[j]? = (msX K C R T M n)[j]?) ∧ W.grownBy (((((W.setCell ⟨g, t * 5, none⟩ (.int .i64 (K t))).setCell ⟨g, t * 5 + 1, none⟩ (.int .i64 (C t))).setCell ⟨g, t * 5 + 2, none⟩ (.int .i64 (R t))).setCell ⟨g, t * 5 + 3, none⟩ (.string (T t))).setCell ⟨g, t * 5 + 4, none⟩ (.int .i64 (M t))) (some g) := by
  obtain ⟨o1, g1⟩ := h.stored (t * 5) (.int .i64 (K t))
  obtain ⟨o2, g2⟩ := o1.stored (t * 5 + 1) (.int .i64 (C t))
  obtain ⟨o3, g3⟩ := o2.stored (t * 5 + 2) (.int .i64 (R t))
  obtain ⟨o4, g4⟩ := o3.stored (t * 5 + 3) (.string (T t))
  obtain ⟨o5, g5⟩ := o4.stored (t * 5 + 4) (.int .i64 (M t))
  refine ⟨_, o5, fun j hj => ?_, grown_trans (grown_trans (grown_trans (grown_trans g1 g2) g3) g4) g5⟩
  have hl := h.1
  by_cases e4 : t * 5 + 4 = j
  · subst e4
    rw [List.getElem?_set_self (by simp; omega), msX_at K C R T M n t 4 ht (by omega)]; rfl
  rw [List.getElem?_set_ne e4]
  by_cases e3 : t * 5 + 3 = j
  · subst e3
    rw [List.getElem?_set_self (by simp; omega), msX_at K C R T M n t 3 ht (by omega)]; rfl
  rw [List.getElem?_set_ne e3]
  by_cases e2 : t * 5 + 2 = j
  · subst e2
    rw [List.getElem?_set_self (by simp; omega), msX_at K C R T M n t 2 ht (by omega)]; rfl
  rw [List.getElem?_set_ne e2]
  by_cases e1 : t * 5 + 1 = j
  · subst e1
    rw [List.getElem?_set_self (by simp; omega), msX_at K C R T M n t 1 ht (by omega)]; rfl
  rw [List.getElem?_set_ne e1]
  by_cases e0 : t * 5 = j
  · subst e0
    rw [List.getElem?_set_self (by omega)]
    exact (msX_at K C R T M n t 0 ht (by omega)).symm
  rw [List.getElem?_set_ne e0]
  exact hy j (by omega)
theorem ms_rows_eq {n : Nat} {ys : List Value} {K C R : Nat → Int} {T : Nat → ByteArray} {M : Nat → Int} (hl : ys.length = n * 5) (hy : ∀ j, j < n * 5 → ys[j]? = (msX K C R T M n)[j]?) : ys = msX K C R T M n := by
  apply List.ext_getElem?
  intro j
  by_cases h : j < n * 5
  · exact hy j h
  · rw [List.getElem?_eq_none (by omega), List.getElem?_eq_none (by rw [msX_len]; omega)]
set_option maxRecDepth 100000 in
set_option maxHeartbeats 400000 in
theorem laws_szStmt (k c r : Int) (s : ByteArray) (m : Int) (l : Int) (w : World) (hs : s.size ≤ maxLen) (h0 : 0 ≤ l) (h1 : l ≤ 1048576) : Calls Tryz.prog 18 #[.agg #[.int .i64 k, .int .i64 c, .int .i64 r, .string s, .int .i64 m], .int .i64 l] w fun e w' =>
    e = .returned (.int .i64 (szv l s.size)) ∧ Below w.heap.size w w' := by
  unfold maxLen at hs
  by_cases hz : l - (s.size : Int) < 0
  · have he : Hid (szv l s.size = -1) := by show _ = _; unfold szv; rw [if_pos hz]
    go_enter Tryz.func18, Tryz.ntmps18
    go_wp2_with fail
    go_ret
    exact ⟨ret_int he.out.symm, by go_grown⟩
  · have he : Hid (szv l s.size = l - (s.size : Int)) := by show _ = _; unfold szv; rw [if_neg hz]
    go_enter Tryz.func18, Tryz.ntmps18
    go_wp2_with fail
    go_ret
    exact ⟨ret_int he.out.symm, by go_grown⟩
set_option maxRecDepth 100000 in
set_option maxHeartbeats 4000000 in
theorem laws_toStmt (k c r : Int) (s : ByteArray) (m : Int) (w : World) : Calls Tryz.prog 23 #[.agg #[.int .i64 k, .int .i64 c, .int .i64 r, .string s, .int .i64 m]] w fun e w' =>
    e = .returned (.agg #[.int .i64 k, .int .i64 c, .int .i64 r, .string s, .int .i64 m]) ∧ Below w.heap.size w w' := by
  go_enter Tryz.func23, Tryz.ntmps23
  go_wp2_with (first
    | (go_at_call 33; refine (laws_toRef _ _ _).mono ?_; rintro e w1 ⟨rfl, hb⟩; obtain ⟨hc, hf, hC, hF, hz, hk, l0, l1, l2⟩ := bk3 (w := w) (by go_grown) (by go_size) hb; clear hb))
  refine bodyPost_ret (v := .agg #[.int .i64 k, .int .i64 c, .int .i64 r, .string s, .int .i64 m]) ?_ rfl ⟨rfl, by go_grown⟩
  simp (maxDischargeDepth := 9) [results, Tryz.results23, go_sem, *]
set_option maxRecDepth 100000 in
set_option maxHeartbeats 400000 in
theorem laws_eqStmt (k c r : Int) (s : ByteArray) (m : Int) (w : World) : Calls Tryz.prog 28 #[.agg #[.int .i64 k, .int .i64 c, .int .i64 r, .string s, .int .i64 m], .agg #[.int .i64 k, .int .i64 c, .int .i64 r, .string s, .int .i64 m]] w fun e w' =>
    e = .returned (.bool true) ∧ Below w.heap.size w w' := by
  go_enter Tryz.func28, Tryz.ntmps28
  go_wp2_with (first
    | (go_at_call 37; refine (laws_eqRef _ _ _).mono ?_; rintro e w1 ⟨rfl, hb⟩; obtain ⟨hc, hf, hC, hF, hz, hk, l0, l1⟩ := bk2 (w := w) (by go_grown) (by go_size) hb; clear hb))
  go_ret
  exact ⟨rfl, by go_grown⟩
set_option maxRecDepth 100000 in
set_option maxHeartbeats 2000000 in
theorem laws_toStmtS {A : Option Addr} {n cap : Nat} {K C R : Nat → Int} {T : Nat → ByteArray} {M : Nat → Int} (w : World) (h : MsRow w A n K C R T M) (hn : n ≤ 1048576) :
    Calls Tryz.prog 13 #[.slice A n cap] w fun e w' => ∃ v, e = .returned v ∧ w'.ownsRow w.heap.size 51 5 v n (msX K C R T M n) ∧ Below w.heap.size w w' := by
  have HR : Hid (MsRow w A n K C R T M) := h
  clear h
  obtain ⟨i0, hi, hz0, hz1, hz2⟩ := info_parts infoMs
  go_enter Tryz.func13, Tryz.ntmps13
  go_wp2_with (refine wpList_make_full _ rfl _ _ 27 rfl w.heap.size 51 i0 _ 5 Tryz.underlying27 hi hz0 hz1 _ _ _ _ n rfl rfl rfl rfl ?m1 ?m2 ?m3 ?_)
  case m1 => rw [hz2]; omega
  case m2 => unfold maxLen; omega
  case m3 => exact Nat.le_refl _
  intro w1 hown hgrow
  have hg1 : Below w.heap.size w w1 := (Below.refl _ _).grown hgrow (Nat.le_refl _) (fun k hk => by cases hk)
  obtain ⟨ys, hown⟩ : ∃ ys, w1.ownsRow w.heap.size 51 5 (.slice (some ⟨w.heap.size, 0, none⟩) n n) n ys := ⟨_, hown⟩
  clear hgrow
  have HO : Hid (w1.ownsRow w.heap.size 51 5 (.slice (some ⟨w.heap.size, 0, none⟩) n n) n ys) := hown
  clear hown
  go_wp2_with fail
  go_loopw [4] (fun i wr => ∃ t : Nat, t ≤ n ∧ i = .int .i64 t ∧ (∃ ys, wr.ownsRow w.heap.size 51 5 (.slice (some ⟨w.heap.size, 0, none⟩) n n) n ys ∧ ∀ j, j < t * 5 → ys[j]? = (msX K C R T M n)[j]?) ∧ Below w.heap.size w wr) (fun i _ => n - (intOf i).toNat)
  case atStart => exact ⟨0, Nat.zero_le _, rfl, ⟨ys, HO.out, fun j hj => by omega⟩, hg1⟩
  case round =>
    clear HO hg1
    obtain ⟨t, ht, rfl, ⟨ys, hown, hys⟩, hbel⟩ := hrel
    by_cases hlt : t < n
    · obtain ⟨b, o, rfl, hl, c0, c1, c2, c3, c4, hs⟩ := HR.out.2 t hlt
      rw [← hbel.cell (p := ⟨_, _, none⟩) hl] at c0 c1 c2 c3 c4
      have q0 : (0 : Int) ≤ (t : Int) := by omega
      have q1 : (t : Int) < (n : Int) := by omega
      have HO : Hid (wr.ownsRow w.heap.size 51 5 (.slice (some ⟨w.heap.size, 0, none⟩) n n) n ys) := hown
      have HY : Hid (∀ j, j < t * 5 → ys[j]? = (msX K C R T M n)[j]?) := hys
      have HB : Hid (Below w.heap.size w wr) := hbel
      clear hown hys hbel
      go_wp2_with fail
      refine (laws_toStmt _ _ _ _ _ _).mono ?_
      rintro e w2 ⟨rfl, hb⟩
      have HO2 : Hid (w2.ownsRow w.heap.size 51 5 (.slice (some ⟨w.heap.size, 0, none⟩) n n) n ys) := own_below HO.out hb
      have HB2 : Hid (Below w.heap.size w w2) := bchain HB.out hb
      obtain ⟨A', cap', e, _, hc⟩ := own_shape HO2.out
      cases e
      obtain ⟨g0, e0, _, hg, d0, f0⟩ := hc (t * 5) (by omega)
      obtain ⟨g1, e1, _, _, d1, f1⟩ := hc (t * 5 + 1) (by omega)
      obtain ⟨g2, e2, _, _, d2, f2⟩ := hc (t * 5 + 2) (by omega)
      obtain ⟨g3, e3, _, _, d3, f3⟩ := hc (t * 5 + 3) (by omega)
      obtain ⟨g4, e4, _, _, d4, f4⟩ := hc (t * 5 + 4) (by omega)
      cases e0
      cases e1
      cases e2
      cases e3
      cases e4
      clear hc hb c0 c1 c2 c3 c4 HO HB
      have hl5 := HO2.out.1
      obtain ⟨x0, y0⟩ : ∃ x, ys[t * 5]? = some x := ⟨_, List.getElem?_eq_getElem (by omega)⟩
      obtain ⟨x1, y1⟩ : ∃ x, ys[t * 5 + 1]? = some x := ⟨_, List.getElem?_eq_getElem (by omega)⟩
      obtain ⟨x2, y2⟩ : ∃ x, ys[t * 5 + 2]? = some x := ⟨_, List.getElem?_eq_getElem (by omega)⟩
      obtain ⟨x3, y3⟩ : ∃ x, ys[t * 5 + 3]? = some x := ⟨_, List.getElem?_eq_getElem (by omega)⟩
      obtain ⟨x4, y4⟩ : ∃ x, ys[t * 5 + 4]? = some x := ⟨_, List.getElem?_eq_getElem (by omega)⟩
      rw [y0] at d0
      rw [y1] at d1
      rw [y2] at d2
      rw [y3] at d3
      rw [y4] at d4
      clear y0 y1 y2 y3 y4 hl5
      have HT : Hid (∃ zs, (((((w2.setCell ⟨w.heap.size, t * 5, none⟩ (.int .i64 (K t))).setCell ⟨w.heap.size, t * 5 + 1, none⟩ (.int .i64 (C t))).setCell ⟨w.heap.size, t * 5 + 2, none⟩ (.int .i64 (R t))).setCell ⟨w.heap.size, t * 5 + 3, none⟩ (.string (T t))).setCell ⟨w.heap.size, t * 5 + 4, none⟩ (.int .i64 (M t))).ownsRow w.heap.size 51 5 (.slice (some ⟨w.heap.size, 0, none⟩) n n) n zs ∧
        (∀ j, j < (t + 1) * 5 → zs[j]? = (msX K C R T M n)[j]?) ∧ w2.grownBy (((((w2.setCell ⟨w.heap.size, t * 5, none⟩ (.int .i64 (K t))).setCell ⟨w.heap.size, t * 5 + 1, none⟩ (.int .i64 (C t))).setCell ⟨w.heap.size, t * 5 + 2, none⟩ (.int .i64 (R t))).setCell ⟨w.heap.size, t * 5 + 3, none⟩ (.string (T t))).setCell ⟨w.heap.size, t * 5 + 4, none⟩ (.int .i64 (M t))) (some w.heap.size)) := own_fiveM HO2.out hlt HY.out
      clear HO2 HY
      go_wp2_with fail
      all_goals
        go_roundw
        case rel =>
          obtain ⟨zs, z1, z2, z3⟩ := HT.out
          exact ⟨t + 1, by omega, by simp, ⟨zs, z1, z2⟩, HB2.out.grown z3 HB2.out.size (fun k hk => by cases hk; exact Nat.le_refl _)⟩
        case measure => simp [intOf]; omega
    · have q1 : ¬ (t : Int) < (n : Int) := by omega
      obtain rfl : t = n := by omega
      go_wp2_with fail
      go_ret
      exact ⟨_, rfl, by rw [ms_rows_eq hown.1 hys] at hown; exact hown, hbel⟩
set_option maxRecDepth 100000 in
set_option maxHeartbeats 2000000 in
theorem laws_eqStmtS {A A' : Option Addr} {n cap cap' : Nat} {K C R : Nat → Int} {T : Nat → ByteArray} {M : Nat → Int} (w : World) (h : MsRow w A n K C R T M) (h' : MsRow w A' n K C R T M) :
    Calls Tryz.prog 17 #[.slice A n cap, .slice A' n cap'] w fun e w' => e = .returned (.bool true) ∧ Below w.heap.size w w' := by
  have HR : Hid (MsRow w A n K C R T M) := h
  have HR' : Hid (MsRow w A' n K C R T M) := h'
  have hn := h.1
  unfold maxLen at hn
  clear h h'
  go_enter Tryz.func17, Tryz.ntmps17
  go_wp2_with fail
  go_loopw [5] (fun i wr => ∃ k : Nat, k ≤ n ∧ i = .int .i64 k ∧ Below w.heap.size w wr) (fun i _ => n - (intOf i).toNat)
  case atStart => exact ⟨0, Nat.zero_le _, rfl, Below.refl _ _⟩
  case round =>
    obtain ⟨k, hk, rfl, hbel⟩ := hrel
    by_cases hlt : k < n
    · obtain ⟨b, o, rfl, hl, c0, c1, c2, c3, c4, hs⟩ := HR.out.2 k hlt
      obtain ⟨b', o', rfl, hl', c0', c1', c2', c3', c4', _⟩ := HR'.out.2 k hlt
      have hs := hbel.size
      have hW := fun b o h => hbel.cell (p := ⟨b, o, none⟩) h
      have h0 : (0 : Int) ≤ (k : Int) := by omega
      have h1 : (k : Int) < (n : Int) := by omega
      go_wp2_with fail
      go_region_held3 (fun w' => (∀ bq oq, bq < w.heap.size → w'.cell? ⟨bq, oq, none⟩ = w.cell? ⟨bq, oq, none⟩) ∧ w.heap.size ≤ w'.heap.size ∧ Below w.heap.size w w')
        (exact sc_of (Nat.le_refl _) (by go_grown))
        (first
        | (go_at_call 28; refine (laws_eqStmt (K k) (C k) (R k) (T k) (M k) _).mono ?_; rintro e w1 ⟨rfl, hb⟩; obtain ⟨hk1, hz1⟩ := bframe (B := w.heap.size) (X := w) (by go_grown) (by go_size) hb; clear hb))
      all_goals go_wp2_with fail
      all_goals
        go_roundw
        case rel => exact ⟨k + 1, by omega, by go_num, by go_grown⟩
        case measure => simp [intOf]; omega
    · have h1 : ¬ (k : Int) < (n : Int) := by omega
      go_wp2_with fail
      go_ret
      exact ⟨rfl, hbel⟩
end Go.Proofs.YtelehnemlejcoaaGreatDoor
namespace Go.Proofs.YtelehnemlejcoaaGreatDoor
open Go.RowKit
def wrB (t : ByteArray) : Bool := ownB ((⟨#[61]⟩ : ByteArray) ++ t)
def zerB (c r : Int) : Bool := decide (c = 0 ∧ r = 0)
def msAt (k c r : Int) (t : ByteArray) (m a b : Int) : Bool :=
  if k = 1 then refOkB c r && wrB t && decide (m = 0) else if k = 2 then refOkB c r && ownB t && decide (m = 0) else
  if k = 3 then zerB c r && wrB t && decide (1 ≤ m ∧ m ≤ b) else if k = 4 then zerB c r && wrB t && decide (1 ≤ m ∧ m ≤ a) else
  if k = 5 then zerB c r && wrB t && decide (m = 0) else false
theorem eq_size (t : ByteArray) : ((⟨#[61]⟩ : ByteArray) ++ t).size = 1 + t.size := by rw [ByteArray.size_append]; rfl
set_option maxRecDepth 100000 in
set_option maxHeartbeats 1000000 in
theorem impl_isWritten (t : ByteArray) (w : World) (ht : t.size ≤ 1048576) (hg : GI w) : Calls Tryz.prog 45 #[.string t] w fun e w' => e = .returned (.bool (wrB t)) ∧ Below w.heap.size w w' := by
  have HG : Hid (GI w) := hg
  clear hg
  have q : ¬ 9223372036854775807 < 1 + t.size := by omega
  have HZ : Hid (((⟨#[61]⟩ : ByteArray) ++ t).size ≤ maxLen) := by show _ ≤ _; rw [eq_size]; unfold maxLen; omega
  go_enter Tryz.func45, Tryz.ntmps45
  go_wp2_with (go_at_call 46; refine (impl_isOwnSource _ _ HZ.out HG.out).mono ?_; rintro e w1 ⟨rfl, hb⟩)
  go_ret
  exact ⟨rfl, hb⟩
set_option maxRecDepth 100000 in
set_option maxHeartbeats 4000000 in
theorem impl_isRight (k c r : Int) (t : ByteArray) (m a b : Int) (w : World) (ht : t.size ≤ 1048576) (hg : GI w) :
    Calls Tryz.prog 34 #[.agg #[.int .i64 k, .int .i64 c, .int .i64 r, .string t, .int .i64 m], .int .i64 a, .int .i64 b] w fun e w' => e = .returned (.bool (msAt k c r t m a b)) ∧ Below w.heap.size w w' := by
  have HG : Hid (GI w) := hg
  have HTZ : Hid (t.size ≤ maxLen) := by show _ ≤ _; unfold maxLen; omega
  clear hg
  by_cases h1 : k = 1
  · subst h1
    have HF : Hid (msAt 1 c r t m a b = (refOkB c r && wrB t && decide (m = 0))) := rfl
    cases ho : refOkB c r <;> cases hw : wrB t <;> by_cases hm : m = 0
    all_goals
      have HO : Hid (refOkB c r = _) := ho
      have HW : Hid (wrB t = _) := hw
      have HE : Hid (msAt 1 c r t m a b = _) := HF.out.trans (by rw [ho, hw])
      clear ho hw
      go_enter Tryz.func34, Tryz.ntmps34
      go_wp2_with (first
        | (go_at_call 44; refine (impl_RefOk _ _ _).mono ?_; rintro e w1 ⟨rfl, hb⟩; rw [HO.out]; obtain ⟨hc, hf, hC, hF, hz, hk, l0⟩ := bk1 (w := w) (by go_grown) (by go_size) hb; clear hb)
        | (go_at_call 45; refine (impl_isWritten _ _ ht (HG.out.below (by go_grown))).mono ?_; rintro e w2 ⟨rfl, hb⟩; rw [HW.out]; first | (have hk2 := bchain hk hb; have hc2 := (kp hb).1; have hz2 := Nat.le_trans hz hb.size; clear hb) | (obtain ⟨hc, hf, hC, hF, hz, hk, l0⟩ := bk1 (w := w) (by go_grown) (by go_size) hb; clear hb)))
      go_ret
      exact ⟨ret_bool (by rw [HE.out]; simp [*]), by go_grown⟩
  by_cases h2 : k = 2
  · subst h2
    have HF : Hid (msAt 2 c r t m a b = (refOkB c r && ownB t && decide (m = 0))) := rfl
    cases ho : refOkB c r <;> cases hw : ownB t <;> by_cases hm : m = 0
    all_goals
      have HO : Hid (refOkB c r = _) := ho
      have HW : Hid (ownB t = _) := hw
      have HE : Hid (msAt 2 c r t m a b = _) := HF.out.trans (by rw [ho, hw])
      clear ho hw
      go_enter Tryz.func34, Tryz.ntmps34
      go_wp2_with (first
        | (go_at_call 44; refine (impl_RefOk _ _ _).mono ?_; rintro e w1 ⟨rfl, hb⟩; rw [HO.out]; obtain ⟨hc, hf, hC, hF, hz, hk, l0⟩ := bk1 (w := w) (by go_grown) (by go_size) hb; clear hb)
        | (go_at_call 46; refine (impl_isOwnSource _ _ HTZ.out (HG.out.below (by go_grown))).mono ?_; rintro e w2 ⟨rfl, hb⟩; rw [HW.out]; first | (have hk2 := bchain hk hb; have hc2 := (kp hb).1; have hz2 := Nat.le_trans hz hb.size; clear hb) | (obtain ⟨hc, hf, hC, hF, hz, hk, l0⟩ := bk1 (w := w) (by go_grown) (by go_size) hb; clear hb)))
      go_ret
      exact ⟨ret_bool (by rw [HE.out]; simp [*]), by go_grown⟩
  by_cases h3 : k = 3
  · subst h3
    have HF : Hid (msAt 3 c r t m a b = (zerB c r && wrB t && decide (1 ≤ m ∧ m ≤ b))) := rfl
    by_cases hz0 : c = 0 ∧ r = 0
    rotate_left
    · have HE : Hid (msAt 3 c r t m a b = false) := by show _ = _; rw [HF.out]; unfold zerB; rw [decide_eq_false hz0]; rfl
      by_cases hc0 : c = 0
      · have hr0 : ¬ r = 0 := fun e => hz0 ⟨hc0, e⟩
        have hr1 : (r == 0) = false := by simpa using hr0
        clear hz0
        go_enter Tryz.func34, Tryz.ntmps34
        go_wp2_with fail
        go_ret
        exact ⟨ret_bool HE.out.symm, by go_grown⟩
      · have hc1 : (c == 0) = false := by simpa using hc0
        clear hz0
        go_enter Tryz.func34, Tryz.ntmps34
        go_wp2_with fail
        go_ret
        exact ⟨ret_bool HE.out.symm, by go_grown⟩
    obtain ⟨rfl, rfl⟩ := hz0
    cases hw : wrB t <;> by_cases hm1 : 1 ≤ m <;> by_cases hm2 : m ≤ b
    all_goals
      have HW : Hid (wrB t = _) := hw
      have HE : Hid (msAt 3 0 0 t m a b = _) := HF.out.trans (by rw [hw])
      clear hw
      go_enter Tryz.func34, Tryz.ntmps34
      go_wp2_with (first
        | (go_at_call 45; refine (impl_isWritten _ _ ht (HG.out.below (by go_grown))).mono ?_; rintro e w2 ⟨rfl, hb⟩; rw [HW.out]; first | (have hk2 := bchain hk hb; have hc2 := (kp hb).1; have hz2 := Nat.le_trans hz hb.size; clear hb) | (obtain ⟨hc, hf, hC, hF, hz, hk, l0⟩ := bk1 (w := w) (by go_grown) (by go_size) hb; clear hb)))
      go_ret
      exact ⟨ret_bool (by rw [HE.out]; simp [zerB, *]), by go_grown⟩
  by_cases h4 : k = 4
  · subst h4
    have HF : Hid (msAt 4 c r t m a b = (zerB c r && wrB t && decide (1 ≤ m ∧ m ≤ a))) := rfl
    by_cases hz0 : c = 0 ∧ r = 0
    rotate_left
    · have HE : Hid (msAt 4 c r t m a b = false) := by show _ = _; rw [HF.out]; unfold zerB; rw [decide_eq_false hz0]; rfl
      by_cases hc0 : c = 0
      · have hr0 : ¬ r = 0 := fun e => hz0 ⟨hc0, e⟩
        have hr1 : (r == 0) = false := by simpa using hr0
        clear hz0
        go_enter Tryz.func34, Tryz.ntmps34
        go_wp2_with fail
        go_ret
        exact ⟨ret_bool HE.out.symm, by go_grown⟩
      · have hc1 : (c == 0) = false := by simpa using hc0
        clear hz0
        go_enter Tryz.func34, Tryz.ntmps34
        go_wp2_with fail
        go_ret
        exact ⟨ret_bool HE.out.symm, by go_grown⟩
    obtain ⟨rfl, rfl⟩ := hz0
    cases hw : wrB t <;> by_cases hm1 : 1 ≤ m <;> by_cases hm2 : m ≤ a
    all_goals
      have HW : Hid (wrB t = _) := hw
      have HE : Hid (msAt 4 0 0 t m a b = _) := HF.out.trans (by rw [hw])
      clear hw
      go_enter Tryz.func34, Tryz.ntmps34
      go_wp2_with (first
        | (go_at_call 45; refine (impl_isWritten _ _ ht (HG.out.below (by go_grown))).mono ?_; rintro e w2 ⟨rfl, hb⟩; rw [HW.out]; first | (have hk2 := bchain hk hb; have hc2 := (kp hb).1; have hz2 := Nat.le_trans hz hb.size; clear hb) | (obtain ⟨hc, hf, hC, hF, hz, hk, l0⟩ := bk1 (w := w) (by go_grown) (by go_size) hb; clear hb)))
      go_ret
      exact ⟨ret_bool (by rw [HE.out]; simp [zerB, *]), by go_grown⟩
  by_cases h5 : k = 5
  · subst h5
    have HF : Hid (msAt 5 c r t m a b = (zerB c r && wrB t && decide (m = 0))) := rfl
    by_cases hz0 : c = 0 ∧ r = 0
    rotate_left
    · have HE : Hid (msAt 5 c r t m a b = false) := by show _ = _; rw [HF.out]; unfold zerB; rw [decide_eq_false hz0]; rfl
      by_cases hc0 : c = 0
      · have hr0 : ¬ r = 0 := fun e => hz0 ⟨hc0, e⟩
        have hr1 : (r == 0) = false := by simpa using hr0
        clear hz0
        go_enter Tryz.func34, Tryz.ntmps34
        go_wp2_with fail
        go_ret
        exact ⟨ret_bool HE.out.symm, by go_grown⟩
      · have hc1 : (c == 0) = false := by simpa using hc0
        clear hz0
        go_enter Tryz.func34, Tryz.ntmps34
        go_wp2_with fail
        go_ret
        exact ⟨ret_bool HE.out.symm, by go_grown⟩
    obtain ⟨rfl, rfl⟩ := hz0
    cases hw : wrB t <;> by_cases hm : m = 0
    all_goals
      have HW : Hid (wrB t = _) := hw
      have HE : Hid (msAt 5 0 0 t m a b = _) := HF.out.trans (by rw [hw])
      clear hw
      go_enter Tryz.func34, Tryz.ntmps34
      go_wp2_with (first
        | (go_at_call 45; refine (impl_isWritten _ _ ht (HG.out.below (by go_grown))).mono ?_; rintro e w2 ⟨rfl, hb⟩; rw [HW.out]; first | (have hk2 := bchain hk hb; have hc2 := (kp hb).1; have hz2 := Nat.le_trans hz hb.size; clear hb) | (obtain ⟨hc, hf, hC, hF, hz, hk, l0⟩ := bk1 (w := w) (by go_grown) (by go_size) hb; clear hb)))
      go_ret
      exact ⟨ret_bool (by rw [HE.out]; simp [zerB, *]), by go_grown⟩
  have HE : Hid (msAt k c r t m a b = false) := by show _ = _; unfold msAt; rw [if_neg h1, if_neg h2, if_neg h3, if_neg h4, if_neg h5]
  have n1 : (k == 1) = false := by simpa using h1
  have n2 : (k == 2) = false := by simpa using h2
  have n3 : (k == 3) = false := by simpa using h3
  have n4 : (k == 4) = false := by simpa using h4
  have n5 : (k == 5) = false := by simpa using h5
  go_enter Tryz.func34, Tryz.ntmps34
  go_wp2_with fail
  go_ret
  exact ⟨ret_bool HE.out.symm, by go_grown⟩
def msOkB (K C R : Nat → Int) (T : Nat → ByteArray) (M : Nat → Int) (n : Nat) : Bool := decide (n ≤ 30) && (List.range n).all fun i => msAt (K i) (C i) (R i) (T i) (M i) i ((n : Int) - 1 - i)
theorem msOk_big {K C R : Nat → Int} {T : Nat → ByteArray} {M : Nat → Int} {n : Nat} (h : 30 < n) : msOkB K C R T M n = false := by
  have e : decide (n ≤ 30) = false := by simp; omega
  simp [msOkB, e]
theorem msOk_no {K C R : Nat → Int} {T : Nat → ByteArray} {M : Nat → Int} {n k : Nat} (hk : k < n) (h : msAt (K k) (C k) (R k) (T k) (M k) k ((n : Int) - 1 - k) = false) : msOkB K C R T M n = false := by
  have e : ((List.range n).all fun i => msAt (K i) (C i) (R i) (T i) (M i) i ((n : Int) - 1 - i)) = false := all_noC (f := fun i => msAt (K i) (C i) (R i) (T i) (M i) i ((n : Int) - 1 - i)) hk h
  unfold msOkB
  rw [e, Bool.and_false]
theorem msOk_yes {K C R : Nat → Int} {T : Nat → ByteArray} {M : Nat → Int} {n : Nat} (h : n ≤ 30) (hv : ∀ i, i < n → msAt (K i) (C i) (R i) (T i) (M i) i ((n : Int) - 1 - i) = true) : msOkB K C R T M n = true := by
  have e : ((List.range n).all fun i => msAt (K i) (C i) (R i) (T i) (M i) i ((n : Int) - 1 - i)) = true := all_yesC (f := fun i => msAt (K i) (C i) (R i) (T i) (M i) i ((n : Int) - 1 - i)) hv
  unfold msOkB
  rw [e, Bool.and_true, decide_eq_true h]
set_option maxRecDepth 100000 in
set_option maxHeartbeats 4000000 in
theorem impl_MacroOk {A : Option Addr} {n cap : Nat} {K C R : Nat → Int} {T : Nat → ByteArray} {M : Nat → Int} (w : World) (h : MsRow w A n K C R T M) (hT : ∀ i, i < n → (T i).size ≤ 1048576) (hg : GI w) :
    Calls Tryz.prog 25 #[.slice A n cap] w fun e w' => e = .returned (.bool (msOkB K C R T M n)) ∧ Below w.heap.size w w' := by
  have HR : Hid (MsRow w A n K C R T M) := h
  have HG : Hid (GI w) := hg
  have HT : Hid (∀ i, i < n → (T i).size ≤ 1048576) := hT
  have hn := h.1
  unfold maxLen at hn
  clear h hg hT
  by_cases hbig : (30 : Int) < (n : Int)
  · have HF : Hid (msOkB K C R T M n = false) := msOk_big (by omega)
    go_enter Tryz.func25, Tryz.ntmps25
    go_wp2_with fail
    go_ret
    exact ⟨ret_bool HF.out.symm, by go_grown⟩
  go_enter Tryz.func25, Tryz.ntmps25
  go_wp2_with fail
  go_loopw [10] (fun i wr => ∃ k : Nat, k ≤ n ∧ i = .int .i64 k ∧ (∀ i, i < k → msAt (K i) (C i) (R i) (T i) (M i) i ((n : Int) - 1 - i) = true) ∧ Below w.heap.size w wr) (fun i _ => n - (intOf i).toNat)
  case atStart => exact ⟨0, Nat.zero_le _, rfl, fun i hi => by omega, Below.refl _ _⟩
  case round =>
    obtain ⟨k, hk, rfl, hr, hbel⟩ := hrel
    have HI : Hid (∀ i, i < k → msAt (K i) (C i) (R i) (T i) (M i) i ((n : Int) - 1 - i) = true) := hr
    clear hr
    by_cases hlt : k < n
    · obtain ⟨b, o, rfl, hl, c0, c1, c2, c3, c4, _⟩ := HR.out.2 k hlt
      have HTk : Hid ((T k).size ≤ 1048576) := HT.out k hlt
      have hs := hbel.size
      have HGr : Hid (GI wr) := HG.out.below hbel
      rw [← hbel.cell (p := ⟨_, _, none⟩) hl] at c0 c1 c2 c3 c4
      have hl2 : b < wr.heap.size := Nat.lt_of_lt_of_le hl hs
      have h0 : (0 : Int) ≤ (k : Int) := by omega
      have h1 : (k : Int) < (n : Int) := by omega
      have hw1 : IntKind.i64.wrap ((n : Int) - 1) = (n : Int) - 1 := by rw [IntKind.wrap_i64]; omega
      have hw2 : IntKind.i64.wrap ((n : Int) - 1 - (k : Int)) = (n : Int) - 1 - (k : Int) := by rw [IntKind.wrap_i64]; omega
      cases hv : msAt (K k) (C k) (R k) (T k) (M k) k ((n : Int) - 1 - k)
      · have HV : Hid (_ = _) := hv
        have HF : Hid (msOkB K C R T M n = false) := msOk_no hlt hv
        clear hv
        go_wp2_with (go_at_call 34; refine (impl_isRight _ _ _ _ _ _ _ _ HTk.out (HGr.out.below (by go_grown))).mono ?_; rintro e w2 ⟨rfl, hb⟩; rw [HV.out]; have hk1 := bchain (w := wr) (by go_grown) hb; clear hb)
        go_ret
        exact ⟨ret_bool HF.out.symm, bchain hbel (by go_grown)⟩
      · have HV : Hid (msAt (K k) (C k) (R k) (T k) (M k) k ((n : Int) - 1 - k) = true) := hv
        clear hv
        go_wp2_with (go_at_call 34; refine (impl_isRight _ _ _ _ _ _ _ _ HTk.out (HGr.out.below (by go_grown))).mono ?_; rintro e w2 ⟨rfl, hb⟩; rw [HV.out]; have hk1 := bchain (w := wr) (by go_grown) hb; clear hb)
        go_roundw
        case rel => exact ⟨k + 1, by omega, by go_num, fun i hi => by
          by_cases e : i = k
          · subst e; exact HV.out
          · exact HI.out i (by omega), bchain hbel (by go_grown)⟩
        case measure => simp [intOf]; omega
    · have h1 : ¬ (k : Int) < (n : Int) := by omega
      obtain rfl : k = n := by omega
      go_wp2_with fail
      go_ret
      exact ⟨ret_bool (msOk_yes (by omega) HI.out).symm, hbel⟩
end Go.Proofs.YtelehnemlejcoaaGreatDoor
namespace Go.Proofs.YtelehnemlejcoaaGreatDoor
open Go.RowKit
set_option maxRecDepth 100000 in
set_option maxHeartbeats 1000000 in
theorem spec_l11Formula (t : ByteArray) (w : World) (ht : t.size ≤ 1048576) : Calls Tryz.prog 30 #[.string t] w fun e w' => e = .returned (.bool (wrB t)) ∧ Below w.heap.size w w' := by
  have q : ¬ 9223372036854775807 < 1 + t.size := by omega
  have HZ : Hid (((⟨#[61]⟩ : ByteArray) ++ t).size ≤ maxLen) := by show _ ≤ _; rw [eq_size]; unfold maxLen; omega
  cases ho : inF ((⟨#[61]⟩ : ByteArray) ++ t) with
  | none =>
    have HO : Hid (inF ((⟨#[61]⟩ : ByteArray) ++ t) = none) := ho
    have HB : Hid (wrB t = false) := by show _ = _; unfold wrB ownB; rw [ho]
    clear ho
    go_enter Tryz.func30, Tryz.ntmps30
    go_wp2_with fail
    refine (spec_InputOf _ w HZ.out).mono ?_
    rintro e u1 ⟨he, hb⟩
    rw [HO.out] at he
    obtain rfl : e = .returned (.tuple #[.string ⟨#[]⟩, .bool false]) := he
    go_wp2_with fail
    go_ret
    exact ⟨ret_bool HB.out.symm, hb⟩
  | some x =>
    have HO : Hid (inF ((⟨#[61]⟩ : ByteArray) ++ t) = some x) := ho
    have HB : Hid (wrB t = (x.toList == ((⟨#[61]⟩ : ByteArray) ++ t).toList)) := by show _ = _; unfold wrB ownB; rw [ho]
    clear ho
    go_enter Tryz.func30, Tryz.ntmps30
    go_wp2_with fail
    refine (spec_InputOf _ w HZ.out).mono ?_
    rintro e u1 ⟨he, hb⟩
    rw [HO.out] at he
    obtain rfl : e = .returned (.tuple #[.string x, .bool true]) := he
    go_wp2_with fail
    go_ret
    exact ⟨ret_bool HB.out.symm, hb⟩
end Go.Proofs.YtelehnemlejcoaaGreatDoor
namespace Go.Proofs.YtelehnemlejcoaaGreatDoor
open Go.RowKit
theorem opA_shapeM {o : Option ByteArray} {e : Ending} (h : opA o e) : ∃ t ok, e = .returned (.tuple #[.string t, .bool ok]) := by
  cases o with
  | none => exact ⟨_, _, h⟩
  | some t => exact ⟨_, _, h⟩
set_option maxRecDepth 100000 in
set_option maxHeartbeats 8000000 in
theorem spec_MacroOk {A : Option Addr} {n cap : Nat} {K C R : Nat → Int} {T : Nat → ByteArray} {M : Nat → Int} (w : World) (h : MsRow w A n K C R T M) (hT : ∀ i, i < n → (T i).size ≤ 1048576) :
    Calls Tryz.prog 21 #[.slice A n cap] w fun e w' => e = .returned (.bool (msOkB K C R T M n)) ∧ Below w.heap.size w w' := by
  have HR : Hid (MsRow w A n K C R T M) := h
  have HT : Hid (∀ i, i < n → (T i).size ≤ 1048576) := hT
  have hn := h.1
  unfold maxLen at hn
  clear h hT
  by_cases hbig : (30 : Int) < (n : Int)
  · have HF : Hid (msOkB K C R T M n = false) := msOk_big (by omega)
    go_enter Tryz.func21, Tryz.ntmps21
    go_wp2_with fail
    go_ret
    exact ⟨ret_bool HF.out.symm, by go_grown⟩
  go_enter Tryz.func21, Tryz.ntmps21
  go_wp2_with fail
  go_loopw [3] (fun i wr => ∃ k : Nat, k ≤ n ∧ i = .int .i64 k ∧ (∀ i, i < k → msAt (K i) (C i) (R i) (T i) (M i) i ((n : Int) - 1 - i) = true) ∧ Below w.heap.size w wr) (fun i _ => n - (intOf i).toNat)
  case atStart => exact ⟨0, Nat.zero_le _, rfl, fun i hi => by omega, Below.refl _ _⟩
  case round =>
    obtain ⟨k, hk0, rfl, hr, hbel⟩ := hrel
    have HI : Hid (∀ i, i < k → msAt (K i) (C i) (R i) (T i) (M i) i ((n : Int) - 1 - i) = true) := hr
    clear hr
    by_cases hlt : k < n
    · obtain ⟨b, o, rfl, hl, c0, c1, c2, c3, c4, _⟩ := HR.out.2 k hlt
      have HTk : Hid ((T k).size ≤ 1048576) := HT.out k hlt
      have HTm : Hid ((T k).size ≤ maxLen) := by have := HTk.out; exact (by unfold maxLen; omega : (T k).size ≤ maxLen)
      have hs := hbel.size
      rw [← hbel.cell (p := ⟨_, _, none⟩) hl] at c0 c1 c2 c3 c4
      have hl2 : b < wr.heap.size := Nat.lt_of_lt_of_le hl hs
      have h0 : (0 : Int) ≤ (k : Int) := by omega
      have h1 : (k : Int) < (n : Int) := by omega
      have hw1 : IntKind.i64.wrap ((n : Int) - 1) = (n : Int) - 1 := by rw [IntKind.wrap_i64]; omega
      have hw2 : IntKind.i64.wrap ((n : Int) - 1 - (k : Int)) = (n : Int) - 1 - (k : Int) := by rw [IntKind.wrap_i64]; omega
      by_cases hK1 : K k = 1
      · have hK := hK1
        rw [hK] at c0
        have HKK : Hid (K k = 1) := hK
        clear hK1 hK
        cases ho : refOkB (C k) (R k)
        · have HO0 : Hid (∀ x y, C k = x → R k = y → refOkB x y = false) := fun x y h1 h2 => by rw [← h1, ← h2]; exact ho
          have HF : Hid (msOkB K C R T M n = false) := msOk_no hlt (by unfold msAt; rw [HKK.out]; simp [ho])
          clear ho
          by_cases hc0 : C k = 0 <;> by_cases hr0 : R k = 0
          all_goals
            go_wp2_with (first
              | (go_at_call 29; refine (spec_RefOk _ _ _).mono ?_; rintro e w1 ⟨rfl, hb⟩; (first | rw [HO0.out _ _ hc0 hr0] | rw [HO0.out _ _ hc0 rfl] | rw [HO0.out _ _ rfl hr0] | rw [HO0.out _ _ rfl rfl]); first | (have hk2 := bchain hk hb; have hc2 := (kp hb).1; have hz2 := Nat.le_trans hz hb.size; clear hb) | (obtain ⟨hc, hf, hC, hF, hz, hk, l0⟩ := bk1 (w := wr) (by go_grown) (by go_size) hb; clear hb)))
            go_ret
            exact ⟨ret_bool HF.out.symm, bchain hbel (by go_grown)⟩
        have HO : Hid (refOkB (C k) (R k) = true) := ho
        have hc0 : ¬ C k = 0 := by simp only [refOkB, decide_eq_true_eq] at ho; omega
        have hc1 : (C k == 0) = false := by simpa using hc0
        by_cases hm : M k = 0
        rotate_left
        · have hm1 : (M k != 0) = true := by simpa using hm
          have HF : Hid (msOkB K C R T M n = false) := msOk_no hlt (by unfold msAt; rw [HKK.out]; simp [hm])
          clear ho
          go_wp2_with (first
            | (go_at_call 29; refine (spec_RefOk _ _ _).mono ?_; rintro e w1 ⟨rfl, hb⟩; rw [HO.out]; first | (have hk2 := bchain hk hb; have hc2 := (kp hb).1; have hz2 := Nat.le_trans hz hb.size; clear hb) | (obtain ⟨hc, hf, hC, hF, hz, hk, l0⟩ := bk1 (w := wr) (by go_grown) (by go_size) hb; clear hb)))
          go_ret
          exact ⟨ret_bool HF.out.symm, bchain hbel (by go_grown)⟩
        have hm1 : (M k != 0) = false := by simpa using hm
        cases hw : wrB (T k)
        · have HW : Hid (_ = _) := hw
          have HF : Hid (msOkB K C R T M n = false) := msOk_no hlt (by unfold msAt; rw [HKK.out]; simp [hw])
          clear ho hw
          go_wp2_with (first
            | (go_at_call 29; refine (spec_RefOk _ _ _).mono ?_; rintro e w1 ⟨rfl, hb⟩; rw [HO.out]; first | (have hk2 := bchain hk hb; have hc2 := (kp hb).1; have hz2 := Nat.le_trans hz hb.size; clear hb) | (obtain ⟨hc, hf, hC, hF, hz, hk, l0⟩ := bk1 (w := wr) (by go_grown) (by go_size) hb; clear hb))
            | (go_at_call 30; refine (spec_l11Formula _ _ HTk.out).mono ?_; rintro e w2 ⟨rfl, hb⟩; rw [HW.out]; first | (have hk2 := bchain hk hb; have hc2 := (kp hb).1; have hz2 := Nat.le_trans hz hb.size; clear hb) | (obtain ⟨hc, hf, hC, hF, hz, hk, l0⟩ := bk1 (w := wr) (by go_grown) (by go_size) hb; clear hb)))
          go_ret
          exact ⟨ret_bool HF.out.symm, bchain hbel (by go_grown)⟩
        · have HW : Hid (_ = _) := hw
          have HI' : Hid (∀ i, i < k + 1 → msAt (K i) (C i) (R i) (T i) (M i) i ((n : Int) - 1 - i) = true) := fun i hi => by
            by_cases e : i = k
            · subst e; unfold msAt; rw [HKK.out]; simp [ho, hw, hm]
            · exact HI.out i (by omega)
          clear ho hw
          go_wp2_with (first
            | (go_at_call 29; refine (spec_RefOk _ _ _).mono ?_; rintro e w1 ⟨rfl, hb⟩; rw [HO.out]; first | (have hk2 := bchain hk hb; have hc2 := (kp hb).1; have hz2 := Nat.le_trans hz hb.size; clear hb) | (obtain ⟨hc, hf, hC, hF, hz, hk, l0⟩ := bk1 (w := wr) (by go_grown) (by go_size) hb; clear hb))
            | (go_at_call 30; refine (spec_l11Formula _ _ HTk.out).mono ?_; rintro e w2 ⟨rfl, hb⟩; rw [HW.out]; first | (have hk2 := bchain hk hb; have hc2 := (kp hb).1; have hz2 := Nat.le_trans hz hb.size; clear hb) | (obtain ⟨hc, hf, hC, hF, hz, hk, l0⟩ := bk1 (w := wr) (by go_grown) (by go_size) hb; clear hb)))
          go_roundw
          case rel => exact ⟨k + 1, by omega, by go_num, HI'.out, bchain hbel (by go_grown)⟩
          case measure => simp [intOf]; omega
      by_cases hK2 : K k = 2
      · have hK := hK2
        rw [hK] at c0
        have HKK : Hid (K k = 2) := hK
        clear hK2 hK
        cases ho : refOkB (C k) (R k)
        · have HO0 : Hid (∀ x y, C k = x → R k = y → refOkB x y = false) := fun x y h1 h2 => by rw [← h1, ← h2]; exact ho
          have HF : Hid (msOkB K C R T M n = false) := msOk_no hlt (by unfold msAt; rw [HKK.out]; simp [ho])
          clear ho
          by_cases hc0 : C k = 0 <;> by_cases hr0 : R k = 0
          all_goals
            go_wp2_with (first
              | (go_at_call 29; refine (spec_RefOk _ _ _).mono ?_; rintro e w1 ⟨rfl, hb⟩; (first | rw [HO0.out _ _ hc0 hr0] | rw [HO0.out _ _ hc0 rfl] | rw [HO0.out _ _ rfl hr0] | rw [HO0.out _ _ rfl rfl]); first | (have hk2 := bchain hk hb; have hc2 := (kp hb).1; have hz2 := Nat.le_trans hz hb.size; clear hb) | (obtain ⟨hc, hf, hC, hF, hz, hk, l0⟩ := bk1 (w := wr) (by go_grown) (by go_size) hb; clear hb))
              | (go_at_call 31; refine (spec_InputOf _ _ HTm.out).mono ?_; rintro e w3 ⟨he, hb⟩; obtain ⟨txt, ok, rfl⟩ := opA_shapeM he; clear he; first | (have hk2 := bchain hk hb; have hc2 := (kp hb).1; have hz2 := Nat.le_trans hz hb.size; clear hb) | (obtain ⟨hc, hf, hC, hF, hz, hk, l0⟩ := bk1 (w := wr) (by go_grown) (by go_size) hb; clear hb)))
            go_ret
            exact ⟨ret_bool HF.out.symm, bchain hbel (by go_grown)⟩
        have HO : Hid (refOkB (C k) (R k) = true) := ho
        have hc0 : ¬ C k = 0 := by simp only [refOkB, decide_eq_true_eq] at ho; omega
        have hc1 : (C k == 0) = false := by simpa using hc0
        by_cases hm : M k = 0
        rotate_left
        · have hm1 : (M k != 0) = true := by simpa using hm
          have HF : Hid (msOkB K C R T M n = false) := msOk_no hlt (by unfold msAt; rw [HKK.out]; simp [hm])
          clear ho
          go_wp2_with (first
            | (go_at_call 29; refine (spec_RefOk _ _ _).mono ?_; rintro e w1 ⟨rfl, hb⟩; rw [HO.out]; first | (have hk2 := bchain hk hb; have hc2 := (kp hb).1; have hz2 := Nat.le_trans hz hb.size; clear hb) | (obtain ⟨hc, hf, hC, hF, hz, hk, l0⟩ := bk1 (w := wr) (by go_grown) (by go_size) hb; clear hb))
            | (go_at_call 31; refine (spec_InputOf _ _ HTm.out).mono ?_; rintro e w3 ⟨he, hb⟩; obtain ⟨txt, ok, rfl⟩ := opA_shapeM he; clear he; first | (have hk2 := bchain hk hb; have hc2 := (kp hb).1; have hz2 := Nat.le_trans hz hb.size; clear hb) | (obtain ⟨hc, hf, hC, hF, hz, hk, l0⟩ := bk1 (w := wr) (by go_grown) (by go_size) hb; clear hb)))
          go_ret
          exact ⟨ret_bool HF.out.symm, bchain hbel (by go_grown)⟩
        have hm1 : (M k != 0) = false := by simpa using hm
        cases hin : inF (T k) with
        | none =>
          have HIN : Hid (inF (T k) = none) := hin
          have HF : Hid (msOkB K C R T M n = false) := msOk_no hlt (by unfold msAt; rw [HKK.out]; simp [ownB, hin])
          clear ho hin
          go_wp2_with (first
            | (go_at_call 29; refine (spec_RefOk _ _ _).mono ?_; rintro e w1 ⟨rfl, hb⟩; rw [HO.out]; first | (have hk2 := bchain hk hb; have hc2 := (kp hb).1; have hz2 := Nat.le_trans hz hb.size; clear hb) | (obtain ⟨hc, hf, hC, hF, hz, hk, l0⟩ := bk1 (w := wr) (by go_grown) (by go_size) hb; clear hb))
            | (go_at_call 31; refine (spec_InputOf _ _ HTm.out).mono ?_; rintro e w3 ⟨he, hb⟩; rw [HIN.out] at he; obtain rfl : e = .returned (.tuple #[.string ⟨#[]⟩, .bool false]) := he; first | (have hk2 := bchain hk hb; have hc2 := (kp hb).1; have hz2 := Nat.le_trans hz hb.size; clear hb) | (obtain ⟨hc, hf, hC, hF, hz, hk, l0⟩ := bk1 (w := wr) (by go_grown) (by go_size) hb; clear hb)))
          go_ret
          exact ⟨ret_bool HF.out.symm, bchain hbel (by go_grown)⟩
        | some x =>
          have HIN : Hid (inF (T k) = some x) := hin
          cases hq : (x.toList == (T k).toList)
          · have hq2 : ¬ x.toList = (T k).toList := by simpa using hq
            have HF : Hid (msOkB K C R T M n = false) := msOk_no hlt (by unfold msAt; rw [HKK.out]; simp [ownB, hin, hq2])
            clear ho hin hq2
            go_wp2_with (first
              | (go_at_call 29; refine (spec_RefOk _ _ _).mono ?_; rintro e w1 ⟨rfl, hb⟩; rw [HO.out]; first | (have hk2 := bchain hk hb; have hc2 := (kp hb).1; have hz2 := Nat.le_trans hz hb.size; clear hb) | (obtain ⟨hc, hf, hC, hF, hz, hk, l0⟩ := bk1 (w := wr) (by go_grown) (by go_size) hb; clear hb))
              | (go_at_call 31; refine (spec_InputOf _ _ HTm.out).mono ?_; rintro e w3 ⟨he, hb⟩; rw [HIN.out] at he; obtain rfl : e = .returned (.tuple #[.string x, .bool true]) := he; first | (have hk2 := bchain hk hb; have hc2 := (kp hb).1; have hz2 := Nat.le_trans hz hb.size; clear hb) | (obtain ⟨hc, hf, hC, hF, hz, hk, l0⟩ := bk1 (w := wr) (by go_grown) (by go_size) hb; clear hb)))
            go_ret
            exact ⟨ret_bool HF.out.symm, bchain hbel (by go_grown)⟩
          · have hq2 : x.toList = (T k).toList := by simpa using hq
            have HI' : Hid (∀ i, i < k + 1 → msAt (K i) (C i) (R i) (T i) (M i) i ((n : Int) - 1 - i) = true) := fun i hi => by
              by_cases e : i = k
              · subst e; unfold msAt; rw [HKK.out]; simp [ownB, hin, hq2, ho, hm]
              · exact HI.out i (by omega)
            clear ho hin hq2
            go_wp2_with (first
              | (go_at_call 29; refine (spec_RefOk _ _ _).mono ?_; rintro e w1 ⟨rfl, hb⟩; rw [HO.out]; first | (have hk2 := bchain hk hb; have hc2 := (kp hb).1; have hz2 := Nat.le_trans hz hb.size; clear hb) | (obtain ⟨hc, hf, hC, hF, hz, hk, l0⟩ := bk1 (w := wr) (by go_grown) (by go_size) hb; clear hb))
              | (go_at_call 31; refine (spec_InputOf _ _ HTm.out).mono ?_; rintro e w3 ⟨he, hb⟩; rw [HIN.out] at he; obtain rfl : e = .returned (.tuple #[.string x, .bool true]) := he; first | (have hk2 := bchain hk hb; have hc2 := (kp hb).1; have hz2 := Nat.le_trans hz hb.size; clear hb) | (obtain ⟨hc, hf, hC, hF, hz, hk, l0⟩ := bk1 (w := wr) (by go_grown) (by go_size) hb; clear hb)))
            go_roundw
            case rel => exact ⟨k + 1, by omega, by go_num, HI'.out, bchain hbel (by go_grown)⟩
            case measure => simp [intOf]; omega
      by_cases hK3 : K k = 3
      · have hK := hK3
        rw [hK] at c0
        have HKK : Hid (K k = 3) := hK
        clear hK3 hK
        by_cases hc0 : C k = 0
        rotate_left
        · have hc1 : (C k == 0) = false := by simpa using hc0
          have HF : Hid (msOkB K C R T M n = false) := msOk_no hlt (by unfold msAt; rw [HKK.out]; simp [zerB, hc0])
          go_wp2_with fail
          go_ret
          exact ⟨ret_bool HF.out.symm, bchain hbel (by go_grown)⟩
        by_cases hr0 : R k = 0
        rotate_left
        · have hr1 : (R k == 0) = false := by simpa using hr0
          have HF : Hid (msOkB K C R T M n = false) := msOk_no hlt (by unfold msAt; rw [HKK.out]; simp [zerB, hr0])
          go_wp2_with fail
          go_ret
          exact ⟨ret_bool HF.out.symm, bchain hbel (by go_grown)⟩
        cases hib : inB (M k) 1 ((n : Int) - 1 - (k : Int))
        · have HIB : Hid (_ = _) := hib
          have hx : ¬ (1 ≤ M k ∧ M k ≤ (n : Int) - 1 - (k : Int)) := by simpa [inB] using hib
          have HF : Hid (msOkB K C R T M n = false) := msOk_no hlt (by unfold msAt; rw [HKK.out]; simp [hx])
          clear hib hx
          go_wp2_with (first
            | (go_at_call 20; refine (spec_l1InP _ _ _ _).mono ?_; rintro e w2 ⟨rfl, rfl⟩; rw [HIB.out]))
          go_ret
          exact ⟨ret_bool HF.out.symm, bchain hbel (by go_grown)⟩
        have HIB : Hid (inB (M k) 1 ((n : Int) - 1 - (k : Int)) = true) := hib
        have hx : 1 ≤ M k ∧ M k ≤ (n : Int) - 1 - (k : Int) := by simpa [inB] using hib
        cases hw : wrB (T k)
        · have HW : Hid (_ = _) := hw
          have HF : Hid (msOkB K C R T M n = false) := msOk_no hlt (by unfold msAt; rw [HKK.out]; simp [hw])
          clear hib hx hw
          go_wp2_with (first
            | (go_at_call 20; refine (spec_l1InP _ _ _ _).mono ?_; rintro e w2 ⟨rfl, rfl⟩; rw [HIB.out])
            | (go_at_call 30; refine (spec_l11Formula _ _ HTk.out).mono ?_; rintro e w2 ⟨rfl, hb⟩; rw [HW.out]; first | (have hk2 := bchain hk hb; have hc2 := (kp hb).1; have hz2 := Nat.le_trans hz hb.size; clear hb) | (obtain ⟨hc, hf, hC, hF, hz, hk, l0⟩ := bk1 (w := wr) (by go_grown) (by go_size) hb; clear hb)))
          go_ret
          exact ⟨ret_bool HF.out.symm, bchain hbel (by go_grown)⟩
        · have HW : Hid (_ = _) := hw
          have HI' : Hid (∀ i, i < k + 1 → msAt (K i) (C i) (R i) (T i) (M i) i ((n : Int) - 1 - i) = true) := fun i hi => by
            by_cases e : i = k
            · subst e; unfold msAt; rw [HKK.out]; simp [zerB, hc0, hr0, hw, hx]
            · exact HI.out i (by omega)
          clear hib hx hw
          go_wp2_with (first
            | (go_at_call 20; refine (spec_l1InP _ _ _ _).mono ?_; rintro e w2 ⟨rfl, rfl⟩; rw [HIB.out])
            | (go_at_call 30; refine (spec_l11Formula _ _ HTk.out).mono ?_; rintro e w2 ⟨rfl, hb⟩; rw [HW.out]; first | (have hk2 := bchain hk hb; have hc2 := (kp hb).1; have hz2 := Nat.le_trans hz hb.size; clear hb) | (obtain ⟨hc, hf, hC, hF, hz, hk, l0⟩ := bk1 (w := wr) (by go_grown) (by go_size) hb; clear hb)))
          go_roundw
          case rel => exact ⟨k + 1, by omega, by go_num, HI'.out, bchain hbel (by go_grown)⟩
          case measure => simp [intOf]; omega
      by_cases hK4 : K k = 4
      · have hK := hK4
        rw [hK] at c0
        have HKK : Hid (K k = 4) := hK
        clear hK4 hK
        by_cases hc0 : C k = 0
        rotate_left
        · have hc1 : (C k == 0) = false := by simpa using hc0
          have HF : Hid (msOkB K C R T M n = false) := msOk_no hlt (by unfold msAt; rw [HKK.out]; simp [zerB, hc0])
          go_wp2_with fail
          go_ret
          exact ⟨ret_bool HF.out.symm, bchain hbel (by go_grown)⟩
        by_cases hr0 : R k = 0
        rotate_left
        · have hr1 : (R k == 0) = false := by simpa using hr0
          have HF : Hid (msOkB K C R T M n = false) := msOk_no hlt (by unfold msAt; rw [HKK.out]; simp [zerB, hr0])
          go_wp2_with fail
          go_ret
          exact ⟨ret_bool HF.out.symm, bchain hbel (by go_grown)⟩
        cases hib : inB (M k) 1 ((k : Int))
        · have HIB : Hid (_ = _) := hib
          have hx : ¬ (1 ≤ M k ∧ M k ≤ (k : Int)) := by simpa [inB] using hib
          have HF : Hid (msOkB K C R T M n = false) := msOk_no hlt (by unfold msAt; rw [HKK.out]; simp [hx])
          clear hib hx
          go_wp2_with (first
            | (go_at_call 20; refine (spec_l1InP _ _ _ _).mono ?_; rintro e w2 ⟨rfl, rfl⟩; rw [HIB.out]))
          go_ret
          exact ⟨ret_bool HF.out.symm, bchain hbel (by go_grown)⟩
        have HIB : Hid (inB (M k) 1 ((k : Int)) = true) := hib
        have hx : 1 ≤ M k ∧ M k ≤ (k : Int) := by simpa [inB] using hib
        cases hw : wrB (T k)
        · have HW : Hid (_ = _) := hw
          have HF : Hid (msOkB K C R T M n = false) := msOk_no hlt (by unfold msAt; rw [HKK.out]; simp [hw])
          clear hib hx hw
          go_wp2_with (first
            | (go_at_call 20; refine (spec_l1InP _ _ _ _).mono ?_; rintro e w2 ⟨rfl, rfl⟩; rw [HIB.out])
            | (go_at_call 30; refine (spec_l11Formula _ _ HTk.out).mono ?_; rintro e w2 ⟨rfl, hb⟩; rw [HW.out]; first | (have hk2 := bchain hk hb; have hc2 := (kp hb).1; have hz2 := Nat.le_trans hz hb.size; clear hb) | (obtain ⟨hc, hf, hC, hF, hz, hk, l0⟩ := bk1 (w := wr) (by go_grown) (by go_size) hb; clear hb)))
          go_ret
          exact ⟨ret_bool HF.out.symm, bchain hbel (by go_grown)⟩
        · have HW : Hid (_ = _) := hw
          have HI' : Hid (∀ i, i < k + 1 → msAt (K i) (C i) (R i) (T i) (M i) i ((n : Int) - 1 - i) = true) := fun i hi => by
            by_cases e : i = k
            · subst e; unfold msAt; rw [HKK.out]; simp [zerB, hc0, hr0, hw, hx]
            · exact HI.out i (by omega)
          clear hib hx hw
          go_wp2_with (first
            | (go_at_call 20; refine (spec_l1InP _ _ _ _).mono ?_; rintro e w2 ⟨rfl, rfl⟩; rw [HIB.out])
            | (go_at_call 30; refine (spec_l11Formula _ _ HTk.out).mono ?_; rintro e w2 ⟨rfl, hb⟩; rw [HW.out]; first | (have hk2 := bchain hk hb; have hc2 := (kp hb).1; have hz2 := Nat.le_trans hz hb.size; clear hb) | (obtain ⟨hc, hf, hC, hF, hz, hk, l0⟩ := bk1 (w := wr) (by go_grown) (by go_size) hb; clear hb)))
          go_roundw
          case rel => exact ⟨k + 1, by omega, by go_num, HI'.out, bchain hbel (by go_grown)⟩
          case measure => simp [intOf]; omega
      by_cases hK5 : K k = 5
      · have hK := hK5
        rw [hK] at c0
        have HKK : Hid (K k = 5) := hK
        clear hK5 hK
        by_cases hc0 : C k = 0
        rotate_left
        · have hc1 : (C k == 0) = false := by simpa using hc0
          have HF : Hid (msOkB K C R T M n = false) := msOk_no hlt (by unfold msAt; rw [HKK.out]; simp [zerB, hc0])
          go_wp2_with fail
          go_ret
          exact ⟨ret_bool HF.out.symm, bchain hbel (by go_grown)⟩
        by_cases hr0 : R k = 0
        rotate_left
        · have hr1 : (R k == 0) = false := by simpa using hr0
          have HF : Hid (msOkB K C R T M n = false) := msOk_no hlt (by unfold msAt; rw [HKK.out]; simp [zerB, hr0])
          go_wp2_with fail
          go_ret
          exact ⟨ret_bool HF.out.symm, bchain hbel (by go_grown)⟩
        by_cases hm : M k = 0
        rotate_left
        · have hm1 : (M k != 0) = true := by simpa using hm
          have HF : Hid (msOkB K C R T M n = false) := msOk_no hlt (by unfold msAt; rw [HKK.out]; simp [hm])
          go_wp2_with fail
          go_ret
          exact ⟨ret_bool HF.out.symm, bchain hbel (by go_grown)⟩
        have hm1 : (M k != 0) = false := by simpa using hm
        cases hw : wrB (T k)
        · have HW : Hid (_ = _) := hw
          have HF : Hid (msOkB K C R T M n = false) := msOk_no hlt (by unfold msAt; rw [HKK.out]; simp [hw])
          clear hw
          go_wp2_with (first
            | (go_at_call 30; refine (spec_l11Formula _ _ HTk.out).mono ?_; rintro e w2 ⟨rfl, hb⟩; rw [HW.out]; first | (have hk2 := bchain hk hb; have hc2 := (kp hb).1; have hz2 := Nat.le_trans hz hb.size; clear hb) | (obtain ⟨hc, hf, hC, hF, hz, hk, l0⟩ := bk1 (w := wr) (by go_grown) (by go_size) hb; clear hb)))
          go_ret
          exact ⟨ret_bool HF.out.symm, bchain hbel (by go_grown)⟩
        · have HW : Hid (_ = _) := hw
          have HI' : Hid (∀ i, i < k + 1 → msAt (K i) (C i) (R i) (T i) (M i) i ((n : Int) - 1 - i) = true) := fun i hi => by
            by_cases e : i = k
            · subst e; unfold msAt; rw [HKK.out]; simp [zerB, hc0, hr0, hw, hm]
            · exact HI.out i (by omega)
          clear hw
          go_wp2_with (first
            | (go_at_call 30; refine (spec_l11Formula _ _ HTk.out).mono ?_; rintro e w2 ⟨rfl, hb⟩; rw [HW.out]; first | (have hk2 := bchain hk hb; have hc2 := (kp hb).1; have hz2 := Nat.le_trans hz hb.size; clear hb) | (obtain ⟨hc, hf, hC, hF, hz, hk, l0⟩ := bk1 (w := wr) (by go_grown) (by go_size) hb; clear hb)))
          go_roundw
          case rel => exact ⟨k + 1, by omega, by go_num, HI'.out, bchain hbel (by go_grown)⟩
          case measure => simp [intOf]; omega
      have HF : Hid (msOkB K C R T M n = false) := msOk_no hlt (by unfold msAt; rw [if_neg hK1, if_neg hK2, if_neg hK3, if_neg hK4, if_neg hK5])
      have n1 : (K k == 1) = false := by simpa using hK1
      have n2 : (K k == 2) = false := by simpa using hK2
      have n3 : (K k == 3) = false := by simpa using hK3
      have n4 : (K k == 4) = false := by simpa using hK4
      have n5 : (K k == 5) = false := by simpa using hK5
      go_wp2_with fail
      all_goals
        go_ret
        exact ⟨ret_bool HF.out.symm, bchain hbel (by go_grown)⟩
    · have h1 : ¬ (k : Int) < (n : Int) := by omega
      obtain rfl : k = n := by omega
      go_wp2_with fail
      go_ret
      exact ⟨ret_bool (msOk_yes (by omega) HI.out).symm, hbel⟩
end Go.Proofs.YtelehnemlejcoaaGreatDoor
