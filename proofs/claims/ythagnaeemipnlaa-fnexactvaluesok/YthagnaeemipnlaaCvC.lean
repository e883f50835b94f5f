import Derived.Test.YthagnaeemipnlaaCvB
namespace Go.Proofs.Ythagnaeemipnlaa
open Go.RowKit

theorem infoCv : (Try.prog.info? 65).map (fun i => (i.zero, i.size, i.bytes)) = some (some (.agg #[.int .i64 0, .int .i64 0, .int .i64 0, .int .i64 0, .string ⟨#[]⟩]), 5, 48) := by kernel_rfl

theorem own_mono {W : World} {B B' : Nat} {e : TypeId} {size n : Nat} {v : Value} {xs : List Value} (h : W.ownsRow B e size v n xs) (hB : B' ≤ B) : W.ownsRow B' e size v n xs := by
  refine ⟨h.1, ?_⟩
  rcases h.2 with hn | ⟨g, cap, cur, rfl, hb, rest⟩
  · exact .inl hn
  · exact .inr ⟨g, cap, cur, rfl, Nat.le_trans hB hb, rest⟩
theorem own_below {W w' : World} {B : Nat} {e : TypeId} {size n : Nat} {v : Value} {xs : List Value} (h : W.ownsRow B e size v n xs) (hb : Below W.heap.size W w') : w'.ownsRow B e size v n xs := by
  refine ⟨h.1, ?_⟩
  rcases h.2 with hn | ⟨g, cap, cur, rfl, hB, hgg, rest⟩
  · exact .inl hn
  · exact .inr ⟨g, cap, cur, rfl, hB, by rw [hb.block g (Array.getElem?_eq_some_iff.1 hgg).1]; exact hgg, rest⟩
/-- A row's head, its cells, and that they may be written. -/
theorem own_shape {W : World} {B : Nat} {e : TypeId} {size n : Nat} {v : Value} {xs : List Value} (h : W.ownsRow B e size v n xs) :
    ∃ A cap, v = .slice A n cap ∧ n ≤ maxLen ∧ (∀ j, j < n * size → ∃ g, A = some ⟨g, 0, none⟩ ∧ B ≤ g ∧ g < W.heap.size ∧ W.cell? ⟨g, j, none⟩ = xs[j]? ∧ W.frozen? ⟨g, j, none⟩ = false) := by
  rcases h.2 with ⟨rfl, rfl⟩ | ⟨g, cap, cur, rfl, hb, hg, h1, h2, _⟩
  · exact ⟨none, 0, rfl, Nat.zero_le _, fun j hj => by omega⟩
  · exact ⟨_, cap, rfl, Nat.le_trans h1 h2, fun j hj => ⟨g, rfl, hb, (Array.getElem?_eq_some_iff.1 hg).1, h.cellAt j hj, h.frozenAt j⟩⟩
theorem grown_trans {a b c : World} {row : Option Nat} (h : a.grownBy b row) (h' : b.grownBy c row) : a.grownBy c row :=
  ⟨h'.os.trans h.os, h'.tape.trans h.tape, h'.output.trans h.output, Nat.le_trans h.size h'.size, fun k hk hr => (h'.block k (Nat.lt_of_lt_of_le hk h.size) hr).trans (h.block k hk hr)⟩

/-- What a row of the call's own holds, as a row of values. -/
theorem cv_of_own {W : World} {B n : Nat} {A : Option Addr} {cap : Nat} {C R K V : Nat → Int} {S : Nat → ByteArray} (h : W.ownsRow B 65 5 (.slice A n cap) n (cvX C R K V S n)) (hs : ∀ i, i < n → (S i).size ≤ maxLen) : CvRow W A n C R K V S := by
  obtain ⟨A', cap', e, hn, hc⟩ := own_shape h
  cases e
  refine ⟨hn, fun i hi => ?_⟩
  obtain ⟨g, rfl, _, hl, c0, _⟩ := hc (i * 5) (by omega)
  obtain ⟨g1, e1, _, _, c1, _⟩ := hc (i * 5 + 1) (by omega)
  obtain ⟨g2, e2, _, _, c2, _⟩ := hc (i * 5 + 2) (by omega)
  obtain ⟨g3, e3, _, _, c3, _⟩ := hc (i * 5 + 3) (by omega)
  obtain ⟨g4, e4, _, _, c4, _⟩ := hc (i * 5 + 4) (by omega)
  cases e1
  cases e2
  cases e3
  cases e4
  refine ⟨g, 0, rfl, hl, ?_, ?_, ?_, ?_, ?_, hs i hi⟩
  · rw [Nat.zero_add, c0]; exact cvX_at C R K V S n i 0 hi (by omega)
  · rw [Nat.zero_add, c1]; exact cvX_at C R K V S n i 1 hi (by omega)
  · rw [Nat.zero_add, c2]; exact cvX_at C R K V S n i 2 hi (by omega)
  · rw [Nat.zero_add]; exact c3.trans (cvX_at C R K V S n i 3 hi (by omega))
  · rw [Nat.zero_add]; exact c4.trans (cvX_at C R K V S n i 4 hi (by omega))

/-- Five stores into an element of a row that holds, up to it, what it shall hold. -/
theorem own_five {W : World} {B g n cap t : Nat} {ys : List Value} {C R K V : Nat → Int} {S : Nat → ByteArray} (h : W.ownsRow B 65 5 (.slice (some ⟨g, 0, none⟩) n cap) n ys) (ht : t < n) (hy : ∀ j, j < t * 5 → ys[j]? = (cvX C R K V S n)[j]?) :
    ∃ zs, (((((W.setCell ⟨g, t * 5, none⟩ (.int .i64 (C t))).setCell ⟨g, t * 5 + 1, none⟩ (.int .i64 (R t))).setCell ⟨g, t * 5 + 2, none⟩ (.int .i64 (K t))).setCell ⟨g, t * 5 + 3, none⟩ (.int .i64 (V t))).setCell ⟨g, t * 5 + 4, none⟩ (.string (S t))).ownsRow B 65 5 (.slice (some ⟨g, 0, none⟩) n cap) n zs ∧
      (∀ j, j < (t + 1) * 5 → zs[j]? = (cvX C R K V S n)[j]?) ∧ W.grownBy (((((W.setCell ⟨g, t * 5, none⟩ (.int .i64 (C t))).setCell ⟨g, t * 5 + 1, none⟩ (.int .i64 (R t))).setCell ⟨g, t * 5 + 2, none⟩ (.int .i64 (K t))).setCell ⟨g, t * 5 + 3, none⟩ (.int .i64 (V t))).setCell ⟨g, t * 5 + 4, none⟩ (.string (S t))) (some g) := by
  obtain ⟨o1, g1⟩ := h.stored (t * 5) (.int .i64 (C t))
  obtain ⟨o2, g2⟩ := o1.stored (t * 5 + 1) (.int .i64 (R t))
  obtain ⟨o3, g3⟩ := o2.stored (t * 5 + 2) (.int .i64 (K t))
  obtain ⟨o4, g4⟩ := o3.stored (t * 5 + 3) (.int .i64 (V t))
  obtain ⟨o5, g5⟩ := o4.stored (t * 5 + 4) (.string (S t))
  refine ⟨_, o5, fun j hj => ?_, grown_trans (grown_trans (grown_trans (grown_trans g1 g2) g3) g4) g5⟩
  have hl := h.1
  by_cases e4 : t * 5 + 4 = j
  · subst e4
    rw [List.getElem?_set_self (by simp; omega), cvX_at C R K V S n t 4 ht (by omega)]; rfl
  rw [List.getElem?_set_ne e4]
  by_cases e3 : t * 5 + 3 = j
  · subst e3
    rw [List.getElem?_set_self (by simp; omega), cvX_at C R K V S n t 3 ht (by omega)]; rfl
  rw [List.getElem?_set_ne e3]
  by_cases e2 : t * 5 + 2 = j
  · subst e2
    rw [List.getElem?_set_self (by simp; omega), cvX_at C R K V S n t 2 ht (by omega)]; rfl
  rw [List.getElem?_set_ne e2]
  by_cases e1 : t * 5 + 1 = j
  · subst e1
    rw [List.getElem?_set_self (by simp; omega), cvX_at C R K V S n t 1 ht (by omega)]; rfl
  rw [List.getElem?_set_ne e1]
  by_cases e0 : t * 5 = j
  · subst e0
    rw [List.getElem?_set_self (by omega)]
    exact (cvX_at C R K V S n t 0 ht (by omega)).symm
  rw [List.getElem?_set_ne e0]
  exact hy j (by omega)

theorem rows_eq {n : Nat} {ys : List Value} {C R K V : Nat → Int} {S : Nat → ByteArray} (hl : ys.length = n * 5) (hy : ∀ j, j < n * 5 → ys[j]? = (cvX C R K V S n)[j]?) : ys = cvX C R K V S n := by
  apply List.ext_getElem?
  intro j
  by_cases h : j < n * 5
  · exact hy j h
  · rw [List.getElem?_eq_none (by omega), List.getElem?_eq_none (by rw [cvX_len]; omega)]

set_option maxHeartbeats 2000000 in
theorem laws_toCellValueS {A : Option Addr} {n cap : Nat} {C R K V : Nat → Int} {S : Nat → ByteArray} (w : World) (h : CvRow w A n C R K V S) (hn : n ≤ 1048576) :
    Calls Try.prog 16 #[.slice A n cap] w fun e w' => ∃ v, e = .returned v ∧ w'.ownsRow w.heap.size 65 5 v n (cvX C R K V S n) ∧ Below w.heap.size w w' := by
  have HR : Hid (CvRow w A n C R K V S) := h
  clear h
  obtain ⟨i0, hi, hz0, hz1, hz2⟩ := info_parts infoCv
  go_enter Try.func16, Try.ntmps16
  go_wp2_with (refine wpList_make_full _ rfl _ _ 37 rfl w.heap.size 65 i0 _ 5 Try.underlying37 hi hz0 hz1 _ _ _ _ n rfl rfl rfl rfl ?m1 ?m2 ?m3 ?_)
  case m1 => rw [hz2]; omega
  case m2 => unfold maxLen; omega
  case m3 => exact Nat.le_refl _
  intro w1 hown hgrow
  have hg1 : Below w.heap.size w w1 := (Below.refl _ _).grown hgrow (Nat.le_refl _) (fun k hk => by cases hk)
  obtain ⟨ys, hown⟩ : ∃ ys, w1.ownsRow w.heap.size 65 5 (.slice (some ⟨w.heap.size, 0, none⟩) n n) n ys := ⟨_, hown⟩
  clear hgrow
  have HO : Hid (w1.ownsRow w.heap.size 65 5 (.slice (some ⟨w.heap.size, 0, none⟩) n n) n ys) := hown
  clear hown
  go_wp2_with fail
  go_loopw [4] (fun i wr => ∃ t : Nat, t ≤ n ∧ i = .int .i64 t ∧ (∃ ys, wr.ownsRow w.heap.size 65 5 (.slice (some ⟨w.heap.size, 0, none⟩) n n) n ys ∧ ∀ j, j < t * 5 → ys[j]? = (cvX C R K V S n)[j]?) ∧ Below w.heap.size w wr) (fun i _ => n - (intOf i).toNat)
  case atStart => exact ⟨0, Nat.zero_le _, rfl, ⟨ys, HO.out, fun j hj => by omega⟩, hg1⟩
  case round =>
    clear HO hg1
    obtain ⟨t, ht, rfl, ⟨ys, hown, hys⟩, hbel⟩ := hrel
    by_cases hlt : t < n
    · obtain ⟨b, o, rfl, hl, c0, c1, c2, c3, c4, hs⟩ := HR.out.2 t hlt
      rw [← hbel.cell (p := ⟨_, _, none⟩) hl] at c0 c1 c2 c3 c4
      have q0 : (0 : Int) ≤ (t : Int) := by omega
      have q1 : (t : Int) < (n : Int) := by omega
      have HO : Hid (wr.ownsRow w.heap.size 65 5 (.slice (some ⟨w.heap.size, 0, none⟩) n n) n ys) := hown
      have HY : Hid (∀ j, j < t * 5 → ys[j]? = (cvX C R K V S n)[j]?) := hys
      have HB : Hid (Below w.heap.size w wr) := hbel
      clear hown hys hbel
      go_wp2_with fail
      refine (laws_toCellValue _ _ _ _ _ _).mono ?_
      rintro e w2 ⟨rfl, hb⟩
      have HO2 : Hid (w2.ownsRow w.heap.size 65 5 (.slice (some ⟨w.heap.size, 0, none⟩) n n) n ys) := own_below HO.out hb
      have HB2 : Hid (Below w.heap.size w w2) := bchain HB.out hb
      obtain ⟨A', cap', e, _, hc⟩ := own_shape HO2.out
      cases e
      obtain ⟨g0, e0, _, hg, d0, f0⟩ := hc (t * 5) (by omega)
      obtain ⟨g1, e1, _, _, d1, f1⟩ := hc (t * 5 + 1) (by omega)
      obtain ⟨g2, e2, _, _, d2, f2⟩ := hc (t * 5 + 2) (by omega)
      obtain ⟨g3, e3, _, _, d3, f3⟩ := hc (t * 5 + 3) (by omega)
      obtain ⟨g4, e4, _, _, d4, f4⟩ := hc (t * 5 + 4) (by omega)
      cases e0
      cases e1
      cases e2
      cases e3
      cases e4
      clear hc hb c0 c1 c2 c3 c4 HO HB
      have hl5 := HO2.out.1
      obtain ⟨x0, y0⟩ : ∃ x, ys[t * 5]? = some x := ⟨_, List.getElem?_eq_getElem (by omega)⟩
      obtain ⟨x1, y1⟩ : ∃ x, ys[t * 5 + 1]? = some x := ⟨_, List.getElem?_eq_getElem (by omega)⟩
      obtain ⟨x2, y2⟩ : ∃ x, ys[t * 5 + 2]? = some x := ⟨_, List.getElem?_eq_getElem (by omega)⟩
      obtain ⟨x3, y3⟩ : ∃ x, ys[t * 5 + 3]? = some x := ⟨_, List.getElem?_eq_getElem (by omega)⟩
      obtain ⟨x4, y4⟩ : ∃ x, ys[t * 5 + 4]? = some x := ⟨_, List.getElem?_eq_getElem (by omega)⟩
      rw [y0] at d0
      rw [y1] at d1
      rw [y2] at d2
      rw [y3] at d3
      rw [y4] at d4
      clear y0 y1 y2 y3 y4 hl5
      have HT : Hid (∃ zs, (((((w2.setCell ⟨w.heap.size, t * 5, none⟩ (.int .i64 (C t))).setCell ⟨w.heap.size, t * 5 + 1, none⟩ (.int .i64 (R t))).setCell ⟨w.heap.size, t * 5 + 2, none⟩ (.int .i64 (K t))).setCell ⟨w.heap.size, t * 5 + 3, none⟩ (.int .i64 (V t))).setCell ⟨w.heap.size, t * 5 + 4, none⟩ (.string (S t))).ownsRow w.heap.size 65 5 (.slice (some ⟨w.heap.size, 0, none⟩) n n) n zs ∧
        (∀ j, j < (t + 1) * 5 → zs[j]? = (cvX C R K V S n)[j]?) ∧ w2.grownBy (((((w2.setCell ⟨w.heap.size, t * 5, none⟩ (.int .i64 (C t))).setCell ⟨w.heap.size, t * 5 + 1, none⟩ (.int .i64 (R t))).setCell ⟨w.heap.size, t * 5 + 2, none⟩ (.int .i64 (K t))).setCell ⟨w.heap.size, t * 5 + 3, none⟩ (.int .i64 (V t))).setCell ⟨w.heap.size, t * 5 + 4, none⟩ (.string (S t))) (some w.heap.size)) := own_five HO2.out hlt HY.out
      clear HO2 HY
      go_wp2_with fail
      all_goals
        go_roundw
        case rel =>
          obtain ⟨zs, z1, z2, z3⟩ := HT.out
          exact ⟨t + 1, by omega, by simp, ⟨zs, z1, z2⟩, HB2.out.grown z3 HB2.out.size (fun k hk => by cases hk; exact Nat.le_refl _)⟩
        case measure => simp [intOf]; omega
    · have q1 : ¬ (t : Int) < (n : Int) := by omega
      obtain rfl : t = n := by omega
      go_wp2_with fail
      go_ret
      exact ⟨_, rfl, by rw [rows_eq hown.1 hys] at hown; exact hown, hbel⟩
end Go.Proofs.Ythagnaeemipnlaa
