import Derived.Test.YtagmmlipaihilaaCellsF
namespace Go.Proofs.Ytagmmlipaihilaa
open Go.RowKit

theorem cellsX_len (fc fr : Int) (nc m : Nat) : (cellsX fc fr nc m).length = m * 2 := by
  induction m with
  | zero => rfl
  | succ m ih => rw [cellsX_succ, List.length_append, ih]; simp; omega
theorem cellsX_int (fc fr : Int) (nc m : Nat) : ∀ j, j < m * 2 → ∃ z, (cellsX fc fr nc m)[j]? = some (.int .i64 z) := by
  induction m with
  | zero => intro j hj; omega
  | succ m ih =>
    intro j hj
    have hl : (cellsX fc fr nc m).length = m * 2 := cellsX_len _ _ _ _
    rw [cellsX_succ]
    by_cases h : j < m * 2
    · rw [List.getElem?_append_left (by omega)]
      exact ih j h
    · rw [List.getElem?_append_right (by omega), hl]
      have e : j - m * 2 = 0 ∨ j - m * 2 = 1 := by omega
      rcases e with e | e
      · rw [e]; exact ⟨_, rfl⟩
      · rw [e]; exact ⟨_, rfl⟩
theorem manyOf_le (a b c d : Int) : manyOf a b c d ≤ 10000 := by
  unfold manyOf
  split
  · rename_i ho
    simp only [areaOkB, refOkB, Bool.and_eq_true, decide_eq_true_eq] at ho
    have h := Nat.mul_le_mul (show (c - a + 1).toNat ≤ 52 by omega) (show (d - b + 1).toNat ≤ 99 by omega)
    omega
  · omega
/-- Four cells of a block, carried over a call. -/
theorem carry4 {W w' : World} {p : Nat} {x0 x1 x2 x3 : Value} (hb : Below W.heap.size W w') (c0 : W.cell? ⟨p, 0, none⟩ = some x0) (c1 : W.cell? ⟨p, 1, none⟩ = some x1) (c2 : W.cell? ⟨p, 2, none⟩ = some x2) (c3 : W.cell? ⟨p, 3, none⟩ = some x3) :
    w'.cell? ⟨p, 0, none⟩ = some x0 ∧ w'.cell? ⟨p, 1, none⟩ = some x1 ∧ w'.cell? ⟨p, 2, none⟩ = some x2 ∧ w'.cell? ⟨p, 3, none⟩ = some x3 := by
  have hl : p < W.heap.size := World.block_lt_of_cell? W ⟨p, 0, none⟩ c0
  exact ⟨(hb.cell (p := ⟨p, 0, none⟩) hl).trans c0, (hb.cell (p := ⟨p, 1, none⟩) hl).trans c1, (hb.cell (p := ⟨p, 2, none⟩) hl).trans c2, (hb.cell (p := ⟨p, 3, none⟩) hl).trans c3⟩

theorem own_ne {W W' : World} {B B' : Nat} {e e' : TypeId} {s s' n n' : Nat} {v v' : Value} {xs xs' : List Value} (h : W.ownsRow B e s v n xs) (h' : W'.ownsRow B' e' s' v' n' xs') (hl : W.heap.size ≤ B') : v.ownBlock = none ∨ v.ownBlock ≠ v'.ownBlock := by
  cases hv : v.ownBlock with
  | none => exact Or.inl rfl
  | some g =>
    right
    intro e
    have h1 := (h.lt g hv).2
    have h2 := (h'.lt g e.symm).1
    omega
theorem par_grown {W w' : World} {B : Nat} {e : TypeId} {s n p : Nat} {v : Value} {xs : List Value} (h : W.ownsRow B e s v n xs) (hg : W.grownBy w' v.ownBlock) (hp : p < B) {o : Nat} {x : Value} (c : W.cell? ⟨p, o, none⟩ = some x) : w'.cell? ⟨p, o, none⟩ = some x :=
  hg.cell c (fun e => by have := (h.lt _ e.symm).1; simp only at this; omega)

set_option maxHeartbeats 4000000 in
theorem law_FnExactCellsOf (a b c d : Int) (w : World) : Calls Try.prog 8 #[.agg #[.int .i64 a, .int .i64 b, .int .i64 c, .int .i64 d]] w fun e w' =>
    e = .returned (.bool true) ∧ Below w.heap.size w w' := by
  have HN : Hid (manyOf a b c d ≤ 10000) := manyOf_le a b c d
  have HX : Hid (∀ j, j < manyOf a b c d * 2 → ∃ z, (cellsX a b (c - a + 1).toNat (manyOf a b c d))[j]? = some (.int .i64 z)) := cellsX_int _ _ _ _
  go_enter Try.func8, Try.ntmps8
  go_wp2_with fail
  refine (laws_toArea a b c d _).mono ?_
  rintro e u1 ⟨rfl, hb⟩
  obtain ⟨p0, p1, p2, p3⟩ := carry4 (p := w.heap.size) (x0 := .int .i64 a) (x1 := .int .i64 b) (x2 := .int .i64 c) (x3 := .int .i64 d) hb (by simp) (by simp) (by simp) (by simp)
  have s1 : w.heap.size + 1 ≤ u1.heap.size := Nat.le_trans (by go_size) hb.size
  have K1 : Hid (Below w.heap.size w u1) := bchain (by go_grown) hb
  clear hb
  go_wp2_with fail
  refine (spec_CellsOf a b c d _).mono ?_
  rintro e u2 ⟨v0, rfl, ho, hb⟩
  have O0 : Hid (u2.ownsRow u1.heap.size 25 2 v0 (manyOf a b c d) (cellsX a b (c - a + 1).toNat (manyOf a b c d))) := ho
  obtain ⟨p0, p1, p2, p3⟩ := carry4 hb p0 p1 p2 p3
  have s2 := hb.size
  have K2 : Hid (Below w.heap.size w u2) := bchain K1.out hb
  clear hb ho
  go_wp2_with fail
  refine (laws_toArea a b c d _).mono ?_
  rintro e u3 ⟨rfl, hb⟩
  obtain ⟨p0, p1, p2, p3⟩ := carry4 hb p0 p1 p2 p3
  have s3 := hb.size
  have K3 : Hid (Below w.heap.size w u3) := bchain K2.out hb
  have O03 : Hid (u3.ownsRow u1.heap.size 25 2 v0 (manyOf a b c d) (cellsX a b (c - a + 1).toNat (manyOf a b c d))) := own_below O0.out hb
  clear hb
  go_wp2_with fail
  refine (impl_CellsOf a b c d _).mono ?_
  rintro e u4 ⟨v1, rfl, ho, hb⟩
  have O1 : Hid (u4.ownsRow u3.heap.size 25 2 v1 (manyOf a b c d) (cellsX a b (c - a + 1).toNat (manyOf a b c d))) := ho
  obtain ⟨p0, p1, p2, p3⟩ := carry4 hb p0 p1 p2 p3
  have s4 := hb.size
  have K4 : Hid (Below w.heap.size w u4) := bchain K3.out hb
  have O04 : Hid (u4.ownsRow u1.heap.size 25 2 v0 (manyOf a b c d) (cellsX a b (c - a + 1).toNat (manyOf a b c d))) := own_below O03.out hb
  have NE : Hid (v0.ownBlock = none ∨ v0.ownBlock ≠ v1.ownBlock) := own_ne O0.out O1.out s3
  clear hb ho
  go_wp2_with fail
  refine (laws_eqRefS _ O1.out O04.out HX.out).mono ?_
  rintro e u5 ⟨rfl, hb⟩
  obtain ⟨p0, p1, p2, p3⟩ := carry4 hb p0 p1 p2 p3
  have s5 := hb.size
  have K5 : Hid (Below w.heap.size w u5) := bchain K4.out hb
  have O05 : Hid (u5.ownsRow u1.heap.size 25 2 v0 (manyOf a b c d) (cellsX a b (c - a + 1).toNat (manyOf a b c d))) := own_below O04.out hb
  have O15 : Hid (u5.ownsRow u3.heap.size 25 2 v1 (manyOf a b c d) (cellsX a b (c - a + 1).toNat (manyOf a b c d))) := own_below O1.out hb
  clear hb O04 O03 O0 O1
  go_wp2_with fail
  refine (laws_markRefS 1 _ O15.out HN.out (by omega) (by omega)).mono ?_
  rintro e u6 ⟨rfl, ⟨ys, ho, hy⟩, hg⟩
  have O16 : Hid (u6.ownsRow u3.heap.size 25 2 v1 (manyOf a b c d) ys) := ho
  have HY : Hid (∀ j, j < (manyOf a b c d) * 2 → ys[j]? = some (.int .i64 (1 + (j : Nat)))) := hy
  have O06 : Hid (u6.ownsRow u1.heap.size 25 2 v0 (manyOf a b c d) (cellsX a b (c - a + 1).toNat (manyOf a b c d))) := O05.out.kept hg NE.out
  have p0 := par_grown O15.out hg (by omega) p0
  have p1 := par_grown O15.out hg (by omega) p1
  have p2 := par_grown O15.out hg (by omega) p2
  have p3 := par_grown O15.out hg (by omega) p3
  have s6 := hg.size
  have K6 : Hid (Below w.heap.size w u6) := K5.out.grown hg (by omega) (fun k hk => by have := (O15.out.lt k hk).1; omega)
  clear ho hy hg O05 O15
  go_wp2_with fail
  refine (laws_heldRefS 1 _ O16.out HY.out HN.out (by omega) (by omega)).mono ?_
  rintro e u7 ⟨rfl, hb⟩
  obtain ⟨p0, p1, p2, p3⟩ := carry4 hb p0 p1 p2 p3
  have s7 := hb.size
  have K7 : Hid (Below w.heap.size w u7) := bchain K6.out hb
  have O07 : Hid (u7.ownsRow u1.heap.size 25 2 v0 (manyOf a b c d) (cellsX a b (c - a + 1).toNat (manyOf a b c d))) := own_below O06.out hb
  have O17 : Hid (u7.ownsRow u3.heap.size 25 2 v1 (manyOf a b c d) ys) := own_below O16.out hb
  clear hb O06 O16
  have hq : ¬ (1 + (((manyOf a b c d) * 2 : Nat) : Int) < 0) := by omega
  go_wp2_with fail
  refine (laws_toArea a b c d _).mono ?_
  rintro e u8 ⟨rfl, hb⟩
  have s8 := hb.size
  have K8 : Hid (Below w.heap.size w u8) := bchain K7.out hb
  have O08 : Hid (u8.ownsRow u1.heap.size 25 2 v0 (manyOf a b c d) (cellsX a b (c - a + 1).toNat (manyOf a b c d))) := own_below O07.out hb
  have O18 : Hid (u8.ownsRow u3.heap.size 25 2 v1 (manyOf a b c d) ys) := own_below O17.out hb
  clear hb O07 O17
  go_wp2_with fail
  refine (impl_CellsOf a b c d _).mono ?_
  rintro e u9 ⟨v2, rfl, ho, hb⟩
  have O2 : Hid (u9.ownsRow u8.heap.size 25 2 v2 (manyOf a b c d) (cellsX a b (c - a + 1).toNat (manyOf a b c d))) := ho
  have s9 := hb.size
  have K9 : Hid (Below w.heap.size w u9) := bchain K8.out hb
  have O09 : Hid (u9.ownsRow u1.heap.size 25 2 v0 (manyOf a b c d) (cellsX a b (c - a + 1).toNat (manyOf a b c d))) := own_below O08.out hb
  have O19 : Hid (u9.ownsRow u3.heap.size 25 2 v1 (manyOf a b c d) ys) := own_below O18.out hb
  clear hb ho O08 O18
  go_wp2_with fail
  refine (laws_eqRefS _ O2.out O09.out HX.out).mono ?_
  rintro e u10 ⟨rfl, hb⟩
  have K10 : Hid (Below w.heap.size w u10) := bchain K9.out hb
  have O110 : Hid (u10.ownsRow u3.heap.size 25 2 v1 (manyOf a b c d) ys) := own_below O19.out hb
  clear hb
  go_wp2_with fail
  refine (laws_heldRefS 1 _ O110.out HY.out HN.out (by omega) (by omega)).mono ?_
  rintro e u11 ⟨rfl, hb⟩
  have K11 : Hid (Below w.heap.size w u11) := bchain K10.out hb
  clear hb
  go_wp2_with fail
  go_ret
  exact ⟨rfl, K11.out⟩
end Go.Proofs.Ytagmmlipaihilaa
