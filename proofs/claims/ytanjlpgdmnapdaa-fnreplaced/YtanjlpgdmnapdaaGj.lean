import Derived.Test.YtanjlpgdmnapdaaGg
import Derived.Test.YtanjlpgdmnapdaaFiM
import Derived.Test.YtanjlpgdmnapdaaDpM
import Derived.Test.YtanjlpgdmnapdaaGi
namespace Go.Proofs.Ytanjlpgdmnapdaa
open Go.RowKit Go.Maps
set_option linter.unusedSimpArgs false
set_option linter.unusedVariables false

/-- A disk whose rows are the call's own, apart from each other. -/
def DkOwn (w : World) (B : Nat) (v : Value) (d : DK) : Prop := ∃ v1 v2 v3, v = .agg #[v1, v2, v3] ∧ w.ownsRow B 75 2 v1 d.live.length (flat fiL d.live) ∧ w.ownsRow B 75 2 v2 d.safe.length (flat fiL d.safe) ∧
  w.ownsRow B 36 4 v3 d.ops.length (flat dpL d.ops) ∧ (v1.ownBlock = none ∨ v1.ownBlock ≠ v2.ownBlock)
def blks (v : Value) : List (Option Nat) := match v with | .agg a => a.toList.map Value.ownBlock | _ => []
def Apart (v v' : Value) : Prop := ∀ x ∈ blks v, ∀ y ∈ blks v', x = none ∨ x ≠ y
theorem DkOwn.below {w w' : World} {B : Nat} {v : Value} {d : DK} (h : DkOwn w B v d) (hb : Below w.heap.size w w') : DkOwn w' B v d := by
  obtain ⟨v1, v2, v3, e, h1, h2, h3, h4⟩ := h
  exact ⟨v1, v2, v3, e, own_below h1 hb, own_below h2 hb, own_below h3 hb, h4⟩
theorem DkOwn.mono {w : World} {B B' : Nat} {v : Value} {d : DK} (h : DkOwn w B v d) (hB : B' ≤ B) : DkOwn w B' v d := by
  obtain ⟨v1, v2, v3, e, h1, h2, h3, h4⟩ := h
  exact ⟨v1, v2, v3, e, own_mono h1 hB, own_mono h2 hB, own_mono h3 hB, h4⟩
theorem own_nocap {W : World} {B : Nat} {e : TypeId} {s n : Nat} {A : Option Addr} {c : Nat} {xs : List Value} (h : W.ownsRow B e s (.slice A n c) n xs) : A = none → c = 0 := by
  intro e2
  rcases h.2 with ⟨e3, _⟩ | ⟨g, cp, cur, e3, _⟩
  · simp only [Value.slice.injEq] at e3; exact e3.2.2
  · simp only [Value.slice.injEq] at e3; rw [e2] at e3; cases e3.1
theorem DkOwn.row {w : World} {B : Nat} {v : Value} {d : DK} (h : DkOwn w B v d) : DkRow w v d := by
  obtain ⟨v1, v2, v3, rfl, h1, h2, h3, h4⟩ := h
  obtain ⟨A1, c1, rfl, _, _⟩ := own_shape h1
  obtain ⟨A2, c2, rfl, _, _⟩ := own_shape h2
  obtain ⟨A3, c3, rfl, _, _⟩ := own_shape h3
  exact ⟨A1, c1, A2, c2, A3, c3, rfl, RowAt.of_own fiL_len h1 rfl, RowAt.of_own fiL_len h2 rfl, RowAt.of_own dpL_len h3 rfl, own_nocap h1, own_nocap h2, own_nocap h3⟩
theorem DkOwn.blk {w : World} {B : Nat} {v : Value} {d : DK} (h : DkOwn w B v d) : ∀ g, some g ∈ blks v → B ≤ g ∧ g < w.heap.size := by
  obtain ⟨v1, v2, v3, rfl, h1, h2, h3, h4⟩ := h
  intro g hg
  simp only [blks, List.map_cons, List.map_nil, List.mem_cons, List.not_mem_nil, or_false] at hg
  rcases hg with hg | hg | hg
  · exact h1.lt g hg.symm
  · exact h2.lt g hg.symm
  · exact h3.lt g hg.symm
theorem apart_of {w w' : World} {B B' : Nat} {v v' : Value} {d d' : DK} (h : DkOwn w B v d) (h' : DkOwn w' B' v' d') (hb : w.heap.size ≤ B') : Apart v v' ∧ Apart v' v := by
  constructor
  · intro x hx y hy
    cases x with
    | none => exact Or.inl rfl
    | some g =>
      right
      rintro rfl
      have h1 := (h.blk g hx).2
      have h2 := (h'.blk g hy).1
      omega
  · intro x hx y hy
    cases x with
    | none => exact Or.inl rfl
    | some g =>
      right
      rintro rfl
      have h1 := (h.blk g hy).2
      have h2 := (h'.blk g hx).1
      omega
/-- Behind marks on another disk. -/
def Grown3 (w w' : World) (v : Value) : Prop := ∃ r1 r2 r3 wa wb, blks v = [r1, r2, r3] ∧ w.grownBy wa r1 ∧ wa.grownBy wb r2 ∧ wb.grownBy w' r3
theorem own_kept3 {w w' : World} {B : Nat} {e : TypeId} {s n : Nat} {u v : Value} {xs : List Value} (h : w.ownsRow B e s u n xs) (g : Grown3 w w' v) (ha : ∀ y ∈ blks v, u.ownBlock = none ∨ u.ownBlock ≠ y) : w'.ownsRow B e s u n xs := by
  obtain ⟨r1, r2, r3, wa, wb, hb, g1, g2, g3⟩ := g
  rw [hb] at ha
  exact ((h.kept g1 (ha r1 (by simp))).kept g2 (ha r2 (by simp))).kept g3 (ha r3 (by simp))
theorem DkOwn.kept {w w' : World} {B : Nat} {v v' : Value} {d : DK} (h : DkOwn w B v d) (g : Grown3 w w' v') (ha : Apart v v') : DkOwn w' B v d := by
  obtain ⟨v1, v2, v3, rfl, h1, h2, h3, h4⟩ := h
  exact ⟨v1, v2, v3, rfl, own_kept3 h1 g (ha _ (by simp [blks])), own_kept3 h2 g (ha _ (by simp [blks])), own_kept3 h3 g (ha _ (by simp [blks])), h4⟩
theorem below_grown3 {w w' : World} {B : Nat} {v : Value} {w0 : World} (h : Below B w0 w) (hB : B ≤ w.heap.size) (g : Grown3 w w' v) (hv : ∀ g, some g ∈ blks v → B ≤ g) : Below B w0 w' := by
  obtain ⟨r1, r2, r3, wa, wb, hb, g1, g2, g3⟩ := g
  rw [hb] at hv
  have b1 := h.grown g1 hB (fun q hq => hv q (by simp [hq]))
  have b2 := b1.grown g2 (Nat.le_trans hB g1.size) (fun q hq => hv q (by simp [hq]))
  exact b2.grown g3 (Nat.le_trans (Nat.le_trans hB g1.size) g2.size) (fun q hq => hv q (by simp [hq]))

theorem ownSet {W : World} {B : Nat} {e : TypeId} {s n : Nat} {v : Value} {xs : List Value} (h : W.ownsRow B e s v n xs) {g : Nat} (hg : g < B) (o : Nat) (u : Value) : (W.setCell ⟨g, o, none⟩ u).ownsRow B e s v n xs := ownsRow_setCell_below h hg u
/-! ### The law's own functions on disks -/
set_option maxHeartbeats 1000000 in
theorem laws_szDisk {v : Value} {d : DK} (l : Int) (w : World) (h : DkRow w v d) (hok : (∀ x ∈ d.live, fiOk x) ∧ (∀ x ∈ d.safe, fiOk x) ∧ (∀ x ∈ d.ops, dpOk x)) (h0 : 0 ≤ l) (h1 : l ≤ 1048576) :
    Calls Try.prog 26 #[v, .int .i64 l] w fun e w' => ∃ z : Int, e = .returned (.int .i64 z) ∧ z ≤ l ∧ (0 ≤ z → DkLil d) ∧ Below w.heap.size w w' := by
  obtain ⟨A1, c1, A2, c2, A3, c3, rfl, r1, r2, r3, z0⟩ := h
  have HR1 : Hid (FiRow w A1 d.live) := r1
  have HR2 : Hid (FiRow w A2 d.safe) := r2
  have HR3 : Hid (DpRow w A3 d.ops) := r3
  have HOK : Hid ((∀ x ∈ d.live, fiOk x) ∧ (∀ x ∈ d.safe, fiOk x) ∧ (∀ x ∈ d.ops, dpOk x)) := hok
  obtain ⟨n1, HN1⟩ : ∃ n1, Hid (d.live.length = n1) := ⟨_, rfl⟩
  obtain ⟨n2, HN2⟩ : ∃ n2, Hid (d.safe.length = n2) := ⟨_, rfl⟩
  obtain ⟨n3, HN3⟩ : ∃ n3, Hid (d.ops.length = n3) := ⟨_, rfl⟩
  rw [HN1.out, HN2.out, HN3.out]
  clear r1 r2 r3 z0 hok
  go_enter Try.func26, Try.ntmps26
  go_wp2_with fail
  refine (laws_szFileS l _ (HR1.out.below (by go_grown)) HN1.out HOK.out.1 h0 h1).mono ?_
  rintro e w1 ⟨z1, rfl, hz1, hl1, hb⟩
  have k1 := cy hb (b := w.heap.size) (o := 1) (x := .slice A2 n2 c2) (by simp)
  have k2 := cy hb (b := w.heap.size) (o := 2) (x := .slice A3 n3 c3) (by simp)
  have HB1 : Hid (Below w.heap.size w w1) := Below.trans (by go_grown) (hb.mono (by simp))
  have HL1 : Hid (0 ≤ z1 → n1 ≤ 1048576 ∧ ∀ x ∈ d.live, fiLil x) := hl1
  clear hb hl1
  by_cases q1 : z1 < 0
  · go_wp2_with fail
    go_ret
    exact ⟨_, rfl, by omega, fun h => by omega, HB1.out⟩
  go_wp2_with fail
  refine (laws_szFileS z1 _ (HR2.out.below HB1.out) HN2.out HOK.out.2.1 (by omega) (by omega)).mono ?_
  rintro e w2 ⟨z2, rfl, hz2, hl2, hb⟩
  replace k2 := cy hb k2
  have HB2 : Hid (Below w.heap.size w w2) := bchain HB1.out hb
  have HL2 : Hid (0 ≤ z2 → n2 ≤ 1048576 ∧ ∀ x ∈ d.safe, fiLil x) := hl2
  clear hb hl2 k1
  by_cases q2 : z2 < 0
  · go_wp2_with fail
    go_ret
    exact ⟨_, rfl, by omega, fun h => by omega, HB2.out⟩
  go_wp2_with fail
  refine (laws_szDOpS z2 _ (HR3.out.below HB2.out) HN3.out HOK.out.2.2 (by omega) (by omega)).mono ?_
  rintro e w3 ⟨z3, rfl, hz3, hl3, hb⟩
  have HB3 : Hid (Below w.heap.size w w3) := bchain HB2.out hb
  have HL3 : Hid (0 ≤ z3 → n3 ≤ 1048576 ∧ ∀ x ∈ d.ops, dpLil x) := hl3
  clear hb hl3 k2
  by_cases q3 : z3 < 0
  · go_wp2_with fail
    go_ret
    exact ⟨_, rfl, by omega, fun h => by omega, HB3.out⟩
  go_wp2_with fail
  go_ret
  refine ⟨_, rfl, by omega, fun h => ?_, HB3.out⟩
  obtain ⟨a1, a2⟩ := HL1.out (by omega)
  obtain ⟨b1, b2⟩ := HL2.out (by omega)
  obtain ⟨e1, e2⟩ := HL3.out (by omega)
  exact ⟨a2, b2, e2, by rw [HN1.out]; exact a1, by rw [HN2.out]; exact b1, by rw [HN3.out]; exact e1⟩
set_option maxRecDepth 100000 in
set_option maxHeartbeats 2000000 in
theorem laws_toDisk {v : Value} {d : DK} (w : World) (h : DkRow w v d) (hl : DkLil d) :
    Calls Try.prog 27 #[v] w fun e w' => ∃ v', e = .returned v' ∧ DkOwn w' w.heap.size v' d ∧ Below w.heap.size w w' := by
  obtain ⟨A1, c1, A2, c2, A3, c3, rfl, r1, r2, r3, z0⟩ := h
  have HR1 : Hid (FiRow w A1 d.live) := r1
  have HR2 : Hid (FiRow w A2 d.safe) := r2
  have HR3 : Hid (DpRow w A3 d.ops) := r3
  obtain ⟨n1, HN1⟩ : ∃ n1, Hid (d.live.length = n1) := ⟨_, rfl⟩
  obtain ⟨n2, HN2⟩ : ∃ n2, Hid (d.safe.length = n2) := ⟨_, rfl⟩
  obtain ⟨n3, HN3⟩ : ∃ n3, Hid (d.ops.length = n3) := ⟨_, rfl⟩
  have hn1 : n1 ≤ 1048576 := by rw [← HN1.out]; exact hl.n1
  have hn2 : n2 ≤ 1048576 := by rw [← HN2.out]; exact hl.n2
  have hn3 : n3 ≤ 1048576 := by rw [← HN3.out]; exact hl.n3
  rw [HN1.out, HN2.out, HN3.out]
  clear r1 r2 r3 z0 hl
  go_enter Try.func27, Try.ntmps27
  go_wp2_with fail
  refine (laws_toFileS _ (HR1.out.below (by go_grown)) HN1.out hn1).mono ?_
  rintro e w1 ⟨v1, rfl, ho1, hb⟩
  obtain ⟨B1, c1', rfl, y1, y2⟩ := own_shape ho1
  have HO1 : Hid (w1.ownsRow (w.heap.size + 3) 75 2 (.slice B1 n1 c1') n1 (flat fiL d.live)) := own_mono ho1 (by simp)
  obtain ⟨hc, hf, hC, hF, hz, hk, l0, l1, l2⟩ := bk3 (w := w) (by go_grown) (by go_size) hb
  have g0 : w1.cell? ⟨w.heap.size + 1 + 1, 0, none⟩ = some (.slice none 0 0) := by rw [hc _ _ (by omega)]; go_simp
  have g1 : w1.cell? ⟨w.heap.size + 1 + 1, 1, none⟩ = some (.slice none 0 0) := by rw [hc _ _ (by omega)]; go_simp
  have g2 : w1.cell? ⟨w.heap.size + 1 + 1, 2, none⟩ = some (.slice none 0 0) := by rw [hc _ _ (by omega)]; go_simp
  have f0 : ∀ o, w1.frozen? ⟨w.heap.size + 1 + 1, o, none⟩ = false := fun o => by rw [hf _ _ (by omega)]; go_simp
  have p0 : w1.cell? ⟨w.heap.size + 1, 0, none⟩ = some (.slice none 0 0) := by rw [hc _ _ (by omega)]; go_simp
  have p1 : w1.cell? ⟨w.heap.size + 1, 1, none⟩ = some (.slice none 0 0) := by rw [hc _ _ (by omega)]; go_simp
  have p2 : w1.cell? ⟨w.heap.size + 1, 2, none⟩ = some (.slice none 0 0) := by rw [hc _ _ (by omega)]; go_simp
  have pf : ∀ o, w1.frozen? ⟨w.heap.size + 1, o, none⟩ = false := fun o => by rw [hf _ _ (by omega)]; go_simp
  have k1 : w1.cell? ⟨w.heap.size, 1, none⟩ = some (.slice A2 n2 c2) := by rw [hc _ _ (by omega)]; go_simp
  have k2 : w1.cell? ⟨w.heap.size, 2, none⟩ = some (.slice A3 n3 c3) := by rw [hc _ _ (by omega)]; go_simp
  have HB1 : Hid (Below w.heap.size w w1) := hk
  clear hb ho1 y1 y2 hc hf hC hF hk
  go_wp2_with fail
  have HBS : Hid (Below w.heap.size w (w1.setCell ⟨w.heap.size + 1 + 1, 0, none⟩ (.slice B1 n1 c1'))) := HB1.out.setCell (by show w.heap.size ≤ w.heap.size + 1 + 1; omega) _
  refine (laws_toFileS _ (HR2.out.below HBS.out) HN2.out hn2).mono ?_
  rintro e w2 ⟨v2, rfl, ho2, hb⟩
  obtain ⟨B2, c2', rfl, y1, y2⟩ := own_shape ho2
  have HO2 : Hid (w2.ownsRow (w.heap.size + 3) 75 2 (.slice B2 n2 c2') n2 (flat fiL d.safe)) := own_mono ho2 (by simpa using hz)
  have HNE : Hid ((Value.slice B1 n1 c1').ownBlock = none ∨ (Value.slice B1 n1 c1').ownBlock ≠ (Value.slice B2 n2 c2').ownBlock) := own_ne HO1.out ho2 (by simp)
  have HO1' : Hid (w2.ownsRow (w.heap.size + 3) 75 2 (.slice B1 n1 c1') n1 (flat fiL d.live)) := own_below (ownSet HO1.out (by omega) _ _) hb
  replace k2 := cy hb (b := w.heap.size) (o := 2) (x := .slice A3 n3 c3) (by go_simp)
  have g0' := cy hb (b := w.heap.size + 1 + 1) (o := 0) (x := .slice B1 n1 c1') (by go_simp)
  have g1' := cy hb (b := w.heap.size + 1 + 1) (o := 1) (x := .slice none 0 0) (by go_simp)
  have g2' := cy hb (b := w.heap.size + 1 + 1) (o := 2) (x := .slice none 0 0) (by go_simp)
  have f0' : ∀ o, w2.frozen? ⟨w.heap.size + 1 + 1, o, none⟩ = false := fun o => by
    rw [hb.frozen (p := ⟨w.heap.size + 1 + 1, o, none⟩) (by simpa using l2)]
    go_simp
  have HB2 : Hid (Below w.heap.size w w2) := bchain HBS.out hb
  replace p0 := cy hb (b := w.heap.size + 1) (o := 0) (x := .slice none 0 0) (by go_simp)
  replace p1 := cy hb (b := w.heap.size + 1) (o := 1) (x := .slice none 0 0) (by go_simp)
  replace p2 := cy hb (b := w.heap.size + 1) (o := 2) (x := .slice none 0 0) (by go_simp)
  replace pf : ∀ o, w2.frozen? ⟨w.heap.size + 1, o, none⟩ = false := fun o => by
    rw [hb.frozen (p := ⟨w.heap.size + 1, o, none⟩) (by simpa using l1)]
    go_simp
  have hz2 : w.heap.size + 3 ≤ w2.heap.size := Nat.le_trans hz (by simpa using hb.size)
  have m2 : w.heap.size + 1 + 1 < w2.heap.size := by omega
  clear hb ho2 y1 y2 g0 g1 g2 f0 k1
  go_wp2_with fail
  have HBS2 : Hid (Below w.heap.size w (w2.setCell ⟨w.heap.size + 1 + 1, 1, none⟩ (.slice B2 n2 c2'))) := HB2.out.setCell (by show w.heap.size ≤ w.heap.size + 1 + 1; omega) _
  refine (laws_toDOpS _ (HR3.out.below HBS2.out) HN3.out hn3).mono ?_
  rintro e w3 ⟨v3, rfl, ho3, hb⟩
  obtain ⟨B3, c3', rfl, y1, y2⟩ := own_shape ho3
  have HO3 : Hid (w3.ownsRow (w.heap.size + 3) 36 4 (.slice B3 n3 c3') n3 (flat dpL d.ops)) := own_mono ho3 (by simpa using hz2)
  have HO13 : Hid (w3.ownsRow (w.heap.size + 3) 75 2 (.slice B1 n1 c1') n1 (flat fiL d.live)) := own_below (ownSet HO1'.out (by omega) _ _) hb
  have HO23 : Hid (w3.ownsRow (w.heap.size + 3) 75 2 (.slice B2 n2 c2') n2 (flat fiL d.safe)) := own_below (ownSet HO2.out (by omega) _ _) hb
  have g0'' := cy hb (b := w.heap.size + 1 + 1) (o := 0) (x := .slice B1 n1 c1') (by go_simp)
  have g1'' := cy hb (b := w.heap.size + 1 + 1) (o := 1) (x := .slice B2 n2 c2') (by go_simp)
  have g2'' := cy hb (b := w.heap.size + 1 + 1) (o := 2) (x := .slice none 0 0) (by go_simp)
  have f0'' : ∀ o, w3.frozen? ⟨w.heap.size + 1 + 1, o, none⟩ = false := fun o => by
    rw [hb.frozen (p := ⟨w.heap.size + 1 + 1, o, none⟩) (by simpa using m2)]
    go_simp
  have HB3 : Hid (Below w.heap.size w w3) := bchain HBS2.out hb
  have l1' : w.heap.size + 1 < w2.heap.size := by omega
  replace p0 := cy hb (b := w.heap.size + 1) (o := 0) (x := .slice none 0 0) (by go_simp)
  replace p1 := cy hb (b := w.heap.size + 1) (o := 1) (x := .slice none 0 0) (by go_simp)
  replace p2 := cy hb (b := w.heap.size + 1) (o := 2) (x := .slice none 0 0) (by go_simp)
  replace pf : ∀ o, w3.frozen? ⟨w.heap.size + 1, o, none⟩ = false := fun o => by
    rw [hb.frozen (p := ⟨w.heap.size + 1, o, none⟩) (by simpa using l1')]
    go_simp
  have hz3 : w.heap.size + 3 ≤ w3.heap.size := Nat.le_trans hz2 (by simpa using hb.size)
  have m3 : w.heap.size + 1 + 1 < w3.heap.size := by omega
  clear hb ho3 y1 y2 g0' g1' g2' f0'
  go_wp2_with fail
  refine bodyPost_ret (v := .agg #[.slice B1 n1 c1', .slice B2 n2 c2', .slice B3 n3 c3']) ?_ rfl ⟨_, rfl, ⟨_, _, _, rfl, ?_, ?_, ?_, HNE.out⟩, ?_⟩
  · simp (maxDischargeDepth := 9) [results, Try.results27, go_sem, *]
  · rw [HN1.out]
    exact own_mono (ownSet (ownSet (ownSet (ownSet HO13.out (by omega) _ _) (by omega) _ _) (by omega) _ _) (by omega) _ _) (by omega)
  · rw [HN2.out]
    exact own_mono (ownSet (ownSet (ownSet (ownSet HO23.out (by omega) _ _) (by omega) _ _) (by omega) _ _) (by omega) _ _) (by omega)
  · rw [HN3.out]
    exact own_mono (ownSet (ownSet (ownSet (ownSet HO3.out (by omega) _ _) (by omega) _ _) (by omega) _ _) (by omega) _ _) (by omega)
  · exact (((HB3.out.setCell (by show w.heap.size ≤ w.heap.size + 1 + 1; omega) _).setCell (by show w.heap.size ≤ w.heap.size + 1; omega) _).setCell (by show w.heap.size ≤ w.heap.size + 1; omega) _).setCell (by show w.heap.size ≤ w.heap.size + 1; omega) _
end Go.Proofs.Ytanjlpgdmnapdaa
namespace Go.Proofs.Ytanjlpgdmnapdaa
open Go.RowKit Go.Maps
set_option linter.unusedSimpArgs false
set_option linter.unusedVariables false

set_option maxHeartbeats 1000000 in
theorem laws_eqDisk {v v' : Value} {d : DK} (w : World) (h : DkRow w v d) (h' : DkRow w v' d) :
    Calls Try.prog 28 #[v, v'] w fun e w' => e = .returned (.bool true) ∧ Below w.heap.size w w' := by
  obtain ⟨A1, c1, A2, c2, A3, c3, rfl, r1, r2, r3, z0⟩ := h
  obtain ⟨A1', c1', A2', c2', A3', c3', rfl, r1', r2', r3', z0'⟩ := h'
  have HR1 : Hid (FiRow w A1 d.live) := r1
  have HR2 : Hid (FiRow w A2 d.safe) := r2
  have HR3 : Hid (DpRow w A3 d.ops) := r3
  have HR1' : Hid (FiRow w A1' d.live) := r1'
  have HR2' : Hid (FiRow w A2' d.safe) := r2'
  have HR3' : Hid (DpRow w A3' d.ops) := r3'
  obtain ⟨n1, HN1⟩ : ∃ n1, Hid (d.live.length = n1) := ⟨_, rfl⟩
  obtain ⟨n2, HN2⟩ : ∃ n2, Hid (d.safe.length = n2) := ⟨_, rfl⟩
  obtain ⟨n3, HN3⟩ : ∃ n3, Hid (d.ops.length = n3) := ⟨_, rfl⟩
  rw [HN1.out, HN2.out, HN3.out]
  clear r1 r2 r3 z0 r1' r2' r3' z0'
  go_enter Try.func28, Try.ntmps28
  go_wp2_with fail
  refine (laws_eqFileS _ (HR1.out.below (by go_grown)) (HR1'.out.below (by go_grown)) HN1.out HN1.out).mono ?_
  rintro e w1 ⟨rfl, hb⟩
  have k1 := cy hb (b := w.heap.size) (o := 1) (x := .slice A2 n2 c2) (by go_simp)
  have k2 := cy hb (b := w.heap.size) (o := 2) (x := .slice A3 n3 c3) (by go_simp)
  have m1 := cy hb (b := w.heap.size + 1) (o := 1) (x := .slice A2' n2 c2') (by go_simp)
  have m2 := cy hb (b := w.heap.size + 1) (o := 2) (x := .slice A3' n3 c3') (by go_simp)
  have HB1 : Hid (Below w.heap.size w w1) := Below.trans (by go_grown) (hb.mono (by simp; omega))
  clear hb
  go_wp2_with fail
  refine (laws_eqFileS _ (HR2.out.below HB1.out) (HR2'.out.below HB1.out) HN2.out HN2.out).mono ?_
  rintro e w2 ⟨rfl, hb⟩
  replace k2 := cy hb k2
  replace m2 := cy hb m2
  have HB2 : Hid (Below w.heap.size w w2) := bchain HB1.out hb
  clear hb k1 m1
  go_wp2_with fail
  refine (laws_eqDOpS _ (HR3.out.below HB2.out) (HR3'.out.below HB2.out) HN3.out HN3.out).mono ?_
  rintro e w3 ⟨rfl, hb⟩
  have HB3 : Hid (Below w.heap.size w w3) := bchain HB2.out hb
  clear hb k2 m2
  go_wp2_with fail
  go_ret
  exact ⟨rfl, HB3.out⟩
/-- A disk of so many files and ops, as it is marked from k on. -/
def dkMk (k : Int) (n1 n2 n3 : Nat) : DK := ⟨mkL fiMk 2 k n1, mkL fiMk 2 (k + (n1 : Int) * 2) n2, mkL dpMk 4 (k + (n1 : Int) * 2 + (n2 : Int) * 2) n3⟩
set_option maxRecDepth 100000 in
set_option maxHeartbeats 2000000 in
theorem laws_markDisk {B : Nat} {v : Value} {d : DK} (w : World) (h : DkOwn w B v d) (hB : B ≤ w.heap.size) (hl : d.live.length ≤ 1048576 ∧ d.safe.length ≤ 1048576 ∧ d.ops.length ≤ 1048576) :
    Calls Try.prog 31 #[v, .int .i64 1] w fun e w' => e = .returned (.int .i64 (1 + (d.live.length : Int) * 2 + (d.safe.length : Int) * 2 + (d.ops.length : Int) * 4)) ∧ DkOwn w' B v (dkMk 1 d.live.length d.safe.length d.ops.length) ∧ (∃ w0, Below w.heap.size w w0 ∧ Grown3 w0 w' v) := by
  obtain ⟨v1, v2, v3, rfl, h1, h2, h3, h4⟩ := h
  obtain ⟨n1, HN1⟩ : ∃ n1, Hid (d.live.length = n1) := ⟨_, rfl⟩
  obtain ⟨n2, HN2⟩ : ∃ n2, Hid (d.safe.length = n2) := ⟨_, rfl⟩
  obtain ⟨n3, HN3⟩ : ∃ n3, Hid (d.ops.length = n3) := ⟨_, rfl⟩
  rw [HN1.out, HN2.out, HN3.out] at hl
  rw [HN1.out] at h1 ⊢
  rw [HN2.out] at h2 ⊢
  rw [HN3.out] at h3 ⊢
  obtain ⟨hl1, hl2, hl3⟩ := hl
  obtain ⟨A1, c1, rfl, x1, x2⟩ := own_shape h1
  obtain ⟨A2, c2, rfl, x3, x4⟩ := own_shape h2
  obtain ⟨A3, c3, rfl, x5, x6⟩ := own_shape h3
  have HO1 : Hid (w.ownsRow B 75 2 (.slice A1 n1 c1) n1 (flat fiL d.live)) := h1
  have HO2 : Hid (w.ownsRow B 75 2 (.slice A2 n2 c2) n2 (flat fiL d.safe)) := h2
  have HO3 : Hid (w.ownsRow B 36 4 (.slice A3 n3 c3) n3 (flat dpL d.ops)) := h3
  have HNE : Hid ((Value.slice A1 n1 c1).ownBlock = none ∨ (Value.slice A1 n1 c1).ownBlock ≠ (Value.slice A2 n2 c2).ownBlock) := h4
  have HNE' : Hid ((Value.slice A2 n2 c2).ownBlock = none ∨ (Value.slice A2 n2 c2).ownBlock ≠ (Value.slice A1 n1 c1).ownBlock) := by
    show _ ∨ _
    rcases h4 with e | e
    · rw [e]; cases (Value.slice A2 n2 c2).ownBlock <;> simp
    · exact Or.inr e.symm
  have N13 : Hid ((Value.slice A1 n1 c1).ownBlock = none ∨ (Value.slice A1 n1 c1).ownBlock ≠ (Value.slice A3 n3 c3).ownBlock) := own_ne_ty h1 h3 (by decide)
  have N31 : Hid ((Value.slice A3 n3 c3).ownBlock = none ∨ (Value.slice A3 n3 c3).ownBlock ≠ (Value.slice A1 n1 c1).ownBlock) := own_ne_ty h3 h1 (by decide)
  have N23 : Hid ((Value.slice A2 n2 c2).ownBlock = none ∨ (Value.slice A2 n2 c2).ownBlock ≠ (Value.slice A3 n3 c3).ownBlock) := own_ne_ty h2 h3 (by decide)
  have N32 : Hid ((Value.slice A3 n3 c3).ownBlock = none ∨ (Value.slice A3 n3 c3).ownBlock ≠ (Value.slice A2 n2 c2).ownBlock) := own_ne_ty h3 h2 (by decide)
  have HX1 : Hid (∀ q, (Value.slice A1 n1 c1).ownBlock = some q → q < w.heap.size) := fun q hq => (h1.lt q hq).2
  have HX2 : Hid (∀ q, (Value.slice A2 n2 c2).ownBlock = some q → q < w.heap.size) := fun q hq => (h2.lt q hq).2
  clear h1 h2 h3 h4 x1 x2 x3 x4 x5 x6
  go_enter Try.func31, Try.ntmps31
  go_wp2_with fail
  refine (laws_markFileS 1 _ (HO1.out.alloc _) hl1 (by omega) (by omega)).mono ?_
  rintro e w1 ⟨rfl, ho1, g1⟩
  have HM1 : Hid (w1.ownsRow B 75 2 (.slice A1 n1 c1) n1 (flat fiL (mkL fiMk 2 1 n1))) := ho1
  have HO2' : Hid (w1.ownsRow B 75 2 (.slice A2 n2 c2) n2 (flat fiL d.safe)) := (HO2.out.alloc _).kept g1 HNE'.out
  have HO3' : Hid (w1.ownsRow B 36 4 (.slice A3 n3 c3) n3 (flat dpL d.ops)) := (HO3.out.alloc _).kept g1 N31.out
  have k1 := g1.cell (a := ⟨w.heap.size, 1, none⟩) (v := .slice A2 n2 c2) (by simp) (fun e => absurd (HX1.out _ e.symm) (Nat.lt_irrefl _))
  have k2 := g1.cell (a := ⟨w.heap.size, 2, none⟩) (v := .slice A3 n3 c3) (by simp) (fun e => absurd (HX1.out _ e.symm) (Nat.lt_irrefl _))
  have G1 : Hid ((w.alloc (.cells #[.slice A1 n1 c1, .slice A2 n2 c2, .slice A3 n3 c3] 27)).grownBy w1 (Value.slice A1 n1 c1).ownBlock) := g1
  have hw1 : w.heap.size < w1.heap.size := World.block_lt_of_cell? w1 ⟨w.heap.size, 1, none⟩ k1
  clear ho1 g1
  obtain ⟨ka, HKA⟩ : ∃ ka : Int, Hid (1 + (n1 : Int) * 2 = ka) := ⟨_, rfl⟩
  have hka : 0 < ka ∧ ka ≤ 10000000 := by have := HKA.out; omega
  rw [HKA.out]
  go_wp2_with fail
  refine (laws_markFileS ka _ HO2'.out hl2 (by omega) (by omega)).mono ?_
  rintro e w2 ⟨rfl, ho2, g2⟩
  have HM2 : Hid (w2.ownsRow B 75 2 (.slice A2 n2 c2) n2 (flat fiL (mkL fiMk 2 ka n2))) := ho2
  have HM1' : Hid (w2.ownsRow B 75 2 (.slice A1 n1 c1) n1 (flat fiL (mkL fiMk 2 1 n1))) := HM1.out.kept g2 HNE.out
  have HO3'' : Hid (w2.ownsRow B 36 4 (.slice A3 n3 c3) n3 (flat dpL d.ops)) := HO3'.out.kept g2 N32.out
  replace k2 := g2.cell (a := ⟨w.heap.size, 2, none⟩) k2 (fun e => absurd (HX2.out _ e.symm) (Nat.lt_irrefl _))
  have G2 : Hid (w1.grownBy w2 (Value.slice A2 n2 c2).ownBlock) := g2
  clear ho2 g2 k1
  obtain ⟨kb, HKB⟩ : ∃ kb : Int, Hid (ka + (n2 : Int) * 2 = kb) := ⟨_, rfl⟩
  have hkb : 0 < kb ∧ kb ≤ 20000000 := by have := HKB.out; omega
  rw [HKB.out]
  go_wp2_with fail
  refine (laws_markDOpS kb _ HO3''.out hl3 (by omega) (by omega)).mono ?_
  rintro e w3 ⟨rfl, ho3, g3⟩
  have HM3 : Hid (w3.ownsRow B 36 4 (.slice A3 n3 c3) n3 (flat dpL (mkL dpMk 4 kb n3))) := ho3
  have HM1'' : Hid (w3.ownsRow B 75 2 (.slice A1 n1 c1) n1 (flat fiL (mkL fiMk 2 1 n1))) := HM1'.out.kept g3 N13.out
  have HM2'' : Hid (w3.ownsRow B 75 2 (.slice A2 n2 c2) n2 (flat fiL (mkL fiMk 2 ka n2))) := HM2.out.kept g3 N23.out
  have G3 : Hid (w2.grownBy w3 (Value.slice A3 n3 c3).ownBlock) := g3
  clear ho3 g3 k2
  go_wp2_with fail
  go_ret
  refine ⟨ret_int (by rw [← HKB.out, ← HKA.out]), ⟨_, _, _, rfl, ?_, ?_, ?_, HNE.out⟩, ⟨_, (Below.refl _ w).alloc (Nat.le_refl _) _, _, _, _, w1, w2, rfl, G1.out, G2.out, G3.out⟩⟩
  · show w3.ownsRow B _ 2 _ (mkL fiMk 2 1 n1).length _
    rw [mkL_len]
    exact HM1''.out
  · show w3.ownsRow B _ 2 _ (mkL fiMk 2 (1 + (n1 : Int) * 2) n2).length (flat fiL (mkL fiMk 2 (1 + (n1 : Int) * 2) n2))
    rw [mkL_len, HKA.out]
    exact HM2''.out
  · show w3.ownsRow B _ 4 _ (mkL dpMk 4 (1 + (n1 : Int) * 2 + (n2 : Int) * 2) n3).length (flat dpL (mkL dpMk 4 (1 + (n1 : Int) * 2 + (n2 : Int) * 2) n3))
    rw [mkL_len, HKA.out, HKB.out]
    exact HM3.out
set_option maxHeartbeats 1000000 in
theorem laws_heldDisk {v : Value} {n1 n2 n3 : Nat} (w : World) (h : DkRow w v (dkMk 1 n1 n2 n3)) (hl1 : n1 ≤ 1048576) (hl2 : n2 ≤ 1048576) (hl3 : n3 ≤ 1048576) :
    Calls Try.prog 32 #[v, .int .i64 1] w fun e w' => e = .returned (.int .i64 (1 + (n1 : Int) * 2 + (n2 : Int) * 2 + (n3 : Int) * 4)) ∧ Below w.heap.size w w' := by
  obtain ⟨A1, c1, A2, c2, A3, c3, rfl, r1, r2, r3, z0⟩ := h
  have e1 : (dkMk 1 n1 n2 n3).live.length = n1 := mkL_len _ _ _ _
  have e2 : (dkMk 1 n1 n2 n3).safe.length = n2 := mkL_len _ _ _ _
  have e3 : (dkMk 1 n1 n2 n3).ops.length = n3 := mkL_len _ _ _ _
  rw [e1, e2, e3]
  obtain ⟨ka, HKA⟩ : ∃ ka : Int, Hid (1 + (n1 : Int) * 2 = ka) := ⟨_, rfl⟩
  obtain ⟨kb, HKB⟩ : ∃ kb : Int, Hid (ka + (n2 : Int) * 2 = kb) := ⟨_, rfl⟩
  have hka : 0 < ka ∧ ka ≤ 10000000 := by have := HKA.out; omega
  have hkb : 0 < kb ∧ kb ≤ 20000000 := by have := HKB.out; omega
  have HR1 : Hid (FiRow w A1 (mkL fiMk 2 1 n1)) := r1
  have HR2 : Hid (FiRow w A2 (mkL fiMk 2 ka n2)) := by rw [← HKA.out]; exact r2
  have HR3 : Hid (DpRow w A3 (mkL dpMk 4 kb n3)) := by rw [← HKB.out, ← HKA.out]; exact r3
  clear r1 r2 r3 z0 e1 e2 e3
  go_enter Try.func32, Try.ntmps32
  go_wp2_with fail
  refine (laws_heldFileS 1 _ (HR1.out.below (by go_grown)) hl1 (by omega) (by omega)).mono ?_
  rintro e w1 ⟨rfl, hb⟩
  have k1 := cy hb (b := w.heap.size) (o := 1) (x := .slice A2 n2 c2) (by go_simp)
  have k2 := cy hb (b := w.heap.size) (o := 2) (x := .slice A3 n3 c3) (by go_simp)
  have HB1 : Hid (Below w.heap.size w w1) := Below.trans (by go_grown) (hb.mono (by simp))
  clear hb
  rw [HKA.out]
  have q1 : ¬ ka < 0 := by omega
  go_wp2_with fail
  refine (laws_heldFileS ka _ (HR2.out.below HB1.out) hl2 (by omega) (by omega)).mono ?_
  rintro e w2 ⟨rfl, hb⟩
  replace k2 := cy hb k2
  have HB2 : Hid (Below w.heap.size w w2) := bchain HB1.out hb
  clear hb k1
  rw [HKB.out]
  have q2 : ¬ kb < 0 := by omega
  go_wp2_with fail
  refine (laws_heldDOpS kb _ (HR3.out.below HB2.out) hl3 (by omega) (by omega)).mono ?_
  rintro e w3 ⟨rfl, hb⟩
  have HB3 : Hid (Below w.heap.size w w3) := bchain HB2.out hb
  clear hb k2
  obtain ⟨kc, HKC⟩ : ∃ kc : Int, Hid (kb + (n3 : Int) * 4 = kc) := ⟨_, rfl⟩
  have q3 : ¬ kc < 0 := by have := HKC.out; omega
  rw [HKC.out]
  go_wp2_with fail
  go_ret
  exact ⟨ret_int (by rw [← HKC.out, ← HKB.out, ← HKA.out]), HB3.out⟩
end Go.Proofs.Ytanjlpgdmnapdaa
namespace Go.Proofs.Ytanjlpgdmnapdaa
open Go.RowKit Go.Maps
set_option linter.unusedSimpArgs false
set_option linter.unusedVariables false

theorem DkRow.agg {w : World} {v : Value} {d : DK} (h : DkRow w v d) : ∃ a b c a' b' c' n m k, v = .agg #[.slice a n a', .slice b m b', .slice c k c'] := by
  obtain ⟨A1, c1, A2, c2, A3, c3, e, _⟩ := h
  exact ⟨_, _, _, _, _, _, _, _, _, e⟩
set_option maxRecDepth 100000 in
set_option maxHeartbeats 4000000 in
theorem law_FnExactDiskOk {v : Value} {d : DK} (w : World) (h : DkRow w v d) (hok : (∀ x ∈ d.live, fiOk x) ∧ (∀ x ∈ d.safe, fiOk x) ∧ (∀ x ∈ d.ops, dpOk x)) :
    Calls Try.prog 6 #[v] w fun e w' => e = .returned (.bool true) ∧ Below w.heap.size w w' := by
  have HR : Hid (DkRow w v d) := h
  have HOK : Hid ((∀ x ∈ d.live, fiOk x) ∧ (∀ x ∈ d.safe, fiOk x) ∧ (∀ x ∈ d.ops, dpOk x)) := hok
  obtain ⟨a1, a2, a3, b1, b2, b3, m1, m2, m3, rfl⟩ := h.agg
  clear h hok
  go_enter Try.func6, Try.ntmps6
  go_wp2_with fail
  refine (laws_szDisk 1048576 _ (HR.out.below (by go_grown)) HOK.out (by omega) (by omega)).mono ?_
  rintro e w1 ⟨z, rfl, hz, hl, hb⟩
  have k0 := cy hb (b := w.heap.size) (o := 0) (x := .slice a1 m1 b1) (by go_simp)
  have k1 := cy hb (b := w.heap.size) (o := 1) (x := .slice a2 m2 b2) (by go_simp)
  have k2 := cy hb (b := w.heap.size) (o := 2) (x := .slice a3 m3 b3) (by go_simp)
  have HB1 : Hid (Below w.heap.size w w1) := Below.trans (by go_grown) (hb.mono (by simp))
  have HL : Hid (0 ≤ z → DkLil d) := hl
  clear hb hl
  by_cases hz0 : z < 0
  · go_wp2_with fail
    go_ret
    exact ⟨rfl, HB1.out⟩
  have HLL : Hid (DkLil d) := HL.out (by omega)
  go_wp2_with fail
  refine (laws_toDisk _ (HR.out.below HB1.out) HLL.out).mono ?_
  rintro e w2 ⟨vt, rfl, ho, hb⟩
  replace k0 := cy hb k0
  replace k1 := cy hb k1
  replace k2 := cy hb k2
  have HO : Hid (DkOwn w2 w1.heap.size vt d) := ho
  have HB2 : Hid (Below w.heap.size w w2) := bchain HB1.out hb
  clear hb ho
  go_wp2_with fail
  refine (spec_DiskOk _ HO.out.row HLL.out).mono ?_
  rintro e w3 ⟨rfl, hb⟩
  replace k0 := cy hb k0
  replace k1 := cy hb k1
  replace k2 := cy hb k2
  have HB3 : Hid (Below w.heap.size w w3) := bchain HB2.out hb
  clear hb HO
  obtain ⟨rr, HRR⟩ : ∃ rr, Hid (diskB d = rr) := ⟨_, rfl⟩
  rw [HRR.out]
  go_wp2_with fail
  refine (laws_toDisk _ (HR.out.below HB3.out) HLL.out).mono ?_
  rintro e w4 ⟨vx, rfl, ho, hb⟩
  replace k0 := cy hb k0
  replace k1 := cy hb k1
  replace k2 := cy hb k2
  obtain ⟨c1, c2, c3, d1, d2, d3, l1, l2, l3, rfl⟩ := ho.row.agg
  have HX : Hid (DkOwn w4 w3.heap.size (.agg #[.slice c1 l1 d1, .slice c2 l2 d2, .slice c3 l3 d3]) d) := ho
  have HB4 : Hid (Below w.heap.size w w4) := bchain HB3.out hb
  clear hb ho
  go_wp2_with fail
  refine (impl_DiskOk _ (HX.out.row.below (by go_grown)) HLL.out).mono ?_
  rintro e w5 ⟨rfl, hb⟩
  have x0 := cy hb (b := w4.heap.size) (o := 0) (x := .slice c1 l1 d1) (by go_simp)
  have x1 := cy hb (b := w4.heap.size) (o := 1) (x := .slice c2 l2 d2) (by go_simp)
  have x2 := cy hb (b := w4.heap.size) (o := 2) (x := .slice c3 l3 d3) (by go_simp)
  have hl4 : w.heap.size < w4.heap.size := World.block_lt_of_cell? w4 ⟨w.heap.size, 0, none⟩ k0
  replace k0 := cy hb (b := w.heap.size) (o := 0) (x := .slice a1 m1 b1) (by go_simp)
  replace k1 := cy hb (b := w.heap.size) (o := 1) (x := .slice a2 m2 b2) (by go_simp)
  replace k2 := cy hb (b := w.heap.size) (o := 2) (x := .slice a3 m3 b3) (by go_simp)
  have HX5 : Hid (DkOwn w5 w3.heap.size (.agg #[.slice c1 l1 d1, .slice c2 l2 d2, .slice c3 l3 d3]) d) := (HX.out.below (by go_grown)).below hb
  have HB5 : Hid (Below w.heap.size w w5) := bchain (HB4.out.alloc HB4.out.size _) hb
  have hl5 : w.heap.size < w5.heap.size := World.block_lt_of_cell? w5 ⟨w.heap.size, 0, none⟩ k0
  have hl6 : w4.heap.size < w5.heap.size := World.block_lt_of_cell? w5 ⟨w4.heap.size, 0, none⟩ x0
  clear hb HX
  rw [HRR.out]
  go_wp2_with fail
  go_region_held3 (fun w' => (∀ bq oq, bq < w5.heap.size → w'.cell? ⟨bq, oq, none⟩ = w5.cell? ⟨bq, oq, none⟩) ∧ w5.heap.size ≤ w'.heap.size ∧ Below w5.heap.size w5 w')
    (exact sc_of (Nat.le_refl _) (by go_grown))
    (first
    | (go_at_call 27; refine (laws_toDisk _ (HR.out.below (Below.trans HB5.out (Below.mono (B := w5.heap.size) (by go_grown) (Nat.le_of_lt (Nat.lt_of_le_of_lt HB4.out.size hl6))))) HLL.out).mono ?_; rintro e w6 ⟨vy, rfl, ho6, hb⟩; obtain ⟨hk6, hz6⟩ := bframe (B := w5.heap.size) (X := w5) (by go_grown) (by go_size) hb; obtain ⟨e1, e2, e3, f1, f2, f3, j1, j2, j3, rfl⟩ := ho6.row.agg; have HY : Hid (DkRow w6 (.agg #[.slice e1 j1 f1, .slice e2 j2 f2, .slice e3 j3 f3]) d) := ho6.row; clear hb ho6)
    | (go_at_call 28; refine (laws_eqDisk _ (HX5.out.row.below hk6) HY.out).mono ?_; rintro e w7 ⟨rfl, hb⟩; obtain ⟨hk7, hz7⟩ := bframe (B := w5.heap.size) (X := w5) hk6 hz6 hb; clear hb))
  all_goals go_wp2_with fail
  all_goals
    go_ret
    exact ⟨rfl, HB5.out.trans (hk7.mono HB5.out.size)⟩
end Go.Proofs.Ytanjlpgdmnapdaa
