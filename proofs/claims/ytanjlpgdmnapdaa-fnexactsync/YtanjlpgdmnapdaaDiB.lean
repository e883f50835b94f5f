import Derived.Test.YtanjlpgdmnapdaaDiA
namespace Go.Proofs.Ytanjlpgdmnapdaa
open Go.RowKit Go.Maps
set_option linter.unusedSimpArgs false
set_option linter.unusedVariables false

set_option maxHeartbeats 1000000 in
theorem laws_eqDisk {v v' : Value} {d : DK} (w : World) (h : DkRow w v d) (h' : DkRow w v' d) :
    Calls Try.prog 28 #[v, v'] w fun e w' => e = .returned (.bool true) ∧ Below w.heap.size w w' := by
  obtain ⟨A1, c1, A2, c2, A3, c3, rfl, r1, r2, r3, z0⟩ := h
  obtain ⟨A1', c1', A2', c2', A3', c3', rfl, r1', r2', r3', z0'⟩ := h'
  have HR1 : Hid (FiRow w A1 d.live) := r1
  have HR2 : Hid (FiRow w A2 d.safe) := r2
  have HR3 : Hid (DpRow w A3 d.ops) := r3
  have HR1' : Hid (FiRow w A1' d.live) := r1'
  have HR2' : Hid (FiRow w A2' d.safe) := r2'
  have HR3' : Hid (DpRow w A3' d.ops) := r3'
  obtain ⟨n1, HN1⟩ : ∃ n1, Hid (d.live.length = n1) := ⟨_, rfl⟩
  obtain ⟨n2, HN2⟩ : ∃ n2, Hid (d.safe.length = n2) := ⟨_, rfl⟩
  obtain ⟨n3, HN3⟩ : ∃ n3, Hid (d.ops.length = n3) := ⟨_, rfl⟩
  rw [HN1.out, HN2.out, HN3.out]
  clear r1 r2 r3 z0 r1' r2' r3' z0'
  go_enter Try.func28, Try.ntmps28
  go_wp2_with fail
  refine (laws_eqFileS _ (HR1.out.below (by go_grown)) (HR1'.out.below (by go_grown)) HN1.out HN1.out).mono ?_
  rintro e w1 ⟨rfl, hb⟩
  have k1 := cy hb (b := w.heap.size) (o := 1) (x := .slice A2 n2 c2) (by go_simp)
  have k2 := cy hb (b := w.heap.size) (o := 2) (x := .slice A3 n3 c3) (by go_simp)
  have m1 := cy hb (b := w.heap.size + 1) (o := 1) (x := .slice A2' n2 c2') (by go_simp)
  have m2 := cy hb (b := w.heap.size + 1) (o := 2) (x := .slice A3' n3 c3') (by go_simp)
  have HB1 : Hid (Below w.heap.size w w1) := Below.trans (by go_grown) (hb.mono (by simp; omega))
  clear hb
  go_wp2_with fail
  refine (laws_eqFileS _ (HR2.out.below HB1.out) (HR2'.out.below HB1.out) HN2.out HN2.out).mono ?_
  rintro e w2 ⟨rfl, hb⟩
  replace k2 := cy hb k2
  replace m2 := cy hb m2
  have HB2 : Hid (Below w.heap.size w w2) := bchain HB1.out hb
  clear hb k1 m1
  go_wp2_with fail
  refine (laws_eqDOpS _ (HR3.out.below HB2.out) (HR3'.out.below HB2.out) HN3.out HN3.out).mono ?_
  rintro e w3 ⟨rfl, hb⟩
  have HB3 : Hid (Below w.heap.size w w3) := bchain HB2.out hb
  clear hb k2 m2
  go_wp2_with fail
  go_ret
  exact ⟨rfl, HB3.out⟩
/-- A disk of so many files and ops, as it is marked from k on. -/
def dkMk (k : Int) (n1 n2 n3 : Nat) : DK := ⟨mkL fiMk 2 k n1, mkL fiMk 2 (k + (n1 : Int) * 2) n2, mkL dpMk 4 (k + (n1 : Int) * 2 + (n2 : Int) * 2) n3⟩
set_option maxRecDepth 100000 in
set_option maxHeartbeats 2000000 in
theorem laws_markDisk {B : Nat} {v : Value} {d : DK} (w : World) (h : DkOwn w B v d) (hB : B ≤ w.heap.size) (hl : d.live.length ≤ 1048576 ∧ d.safe.length ≤ 1048576 ∧ d.ops.length ≤ 1048576) :
    Calls Try.prog 31 #[v, .int .i64 1] w fun e w' => e = .returned (.int .i64 (1 + (d.live.length : Int) * 2 + (d.safe.length : Int) * 2 + (d.ops.length : Int) * 4)) ∧ DkOwn w' B v (dkMk 1 d.live.length d.safe.length d.ops.length) ∧ (∃ w0, Below w.heap.size w w0 ∧ Grown3 w0 w' v) := by
  obtain ⟨v1, v2, v3, rfl, h1, h2, h3, h4⟩ := h
  obtain ⟨n1, HN1⟩ : ∃ n1, Hid (d.live.length = n1) := ⟨_, rfl⟩
  obtain ⟨n2, HN2⟩ : ∃ n2, Hid (d.safe.length = n2) := ⟨_, rfl⟩
  obtain ⟨n3, HN3⟩ : ∃ n3, Hid (d.ops.length = n3) := ⟨_, rfl⟩
  rw [HN1.out, HN2.out, HN3.out] at hl
  rw [HN1.out] at h1 ⊢
  rw [HN2.out] at h2 ⊢
  rw [HN3.out] at h3 ⊢
  obtain ⟨hl1, hl2, hl3⟩ := hl
  obtain ⟨A1, c1, rfl, x1, x2⟩ := own_shape h1
  obtain ⟨A2, c2, rfl, x3, x4⟩ := own_shape h2
  obtain ⟨A3, c3, rfl, x5, x6⟩ := own_shape h3
  have HO1 : Hid (w.ownsRow B 75 2 (.slice A1 n1 c1) n1 (flat fiL d.live)) := h1
  have HO2 : Hid (w.ownsRow B 75 2 (.slice A2 n2 c2) n2 (flat fiL d.safe)) := h2
  have HO3 : Hid (w.ownsRow B 36 4 (.slice A3 n3 c3) n3 (flat dpL d.ops)) := h3
  have HNE : Hid ((Value.slice A1 n1 c1).ownBlock = none ∨ (Value.slice A1 n1 c1).ownBlock ≠ (Value.slice A2 n2 c2).ownBlock) := h4
  have HNE' : Hid ((Value.slice A2 n2 c2).ownBlock = none ∨ (Value.slice A2 n2 c2).ownBlock ≠ (Value.slice A1 n1 c1).ownBlock) := by
    show _ ∨ _
    rcases h4 with e | e
    · rw [e]; cases (Value.slice A2 n2 c2).ownBlock <;> simp
    · exact Or.inr e.symm
  have N13 : Hid ((Value.slice A1 n1 c1).ownBlock = none ∨ (Value.slice A1 n1 c1).ownBlock ≠ (Value.slice A3 n3 c3).ownBlock) := own_ne_ty h1 h3 (by decide)
  have N31 : Hid ((Value.slice A3 n3 c3).ownBlock = none ∨ (Value.slice A3 n3 c3).ownBlock ≠ (Value.slice A1 n1 c1).ownBlock) := own_ne_ty h3 h1 (by decide)
  have N23 : Hid ((Value.slice A2 n2 c2).ownBlock = none ∨ (Value.slice A2 n2 c2).ownBlock ≠ (Value.slice A3 n3 c3).ownBlock) := own_ne_ty h2 h3 (by decide)
  have N32 : Hid ((Value.slice A3 n3 c3).ownBlock = none ∨ (Value.slice A3 n3 c3).ownBlock ≠ (Value.slice A2 n2 c2).ownBlock) := own_ne_ty h3 h2 (by decide)
  have HX1 : Hid (∀ q, (Value.slice A1 n1 c1).ownBlock = some q → q < w.heap.size) := fun q hq => (h1.lt q hq).2
  have HX2 : Hid (∀ q, (Value.slice A2 n2 c2).ownBlock = some q → q < w.heap.size) := fun q hq => (h2.lt q hq).2
  clear h1 h2 h3 h4 x1 x2 x3 x4 x5 x6
  go_enter Try.func31, Try.ntmps31
  go_wp2_with fail
  refine (laws_markFileS 1 _ (HO1.out.alloc _) hl1 (by omega) (by omega)).mono ?_
  rintro e w1 ⟨rfl, ho1, g1⟩
  have HM1 : Hid (w1.ownsRow B 75 2 (.slice A1 n1 c1) n1 (flat fiL (mkL fiMk 2 1 n1))) := ho1
  have HO2' : Hid (w1.ownsRow B 75 2 (.slice A2 n2 c2) n2 (flat fiL d.safe)) := (HO2.out.alloc _).kept g1 HNE'.out
  have HO3' : Hid (w1.ownsRow B 36 4 (.slice A3 n3 c3) n3 (flat dpL d.ops)) := (HO3.out.alloc _).kept g1 N31.out
  have k1 := g1.cell (a := ⟨w.heap.size, 1, none⟩) (v := .slice A2 n2 c2) (by simp) (fun e => absurd (HX1.out _ e.symm) (Nat.lt_irrefl _))
  have k2 := g1.cell (a := ⟨w.heap.size, 2, none⟩) (v := .slice A3 n3 c3) (by simp) (fun e => absurd (HX1.out _ e.symm) (Nat.lt_irrefl _))
  have G1 : Hid ((w.alloc (.cells #[.slice A1 n1 c1, .slice A2 n2 c2, .slice A3 n3 c3] 27)).grownBy w1 (Value.slice A1 n1 c1).ownBlock) := g1
  have hw1 : w.heap.size < w1.heap.size := World.block_lt_of_cell? w1 ⟨w.heap.size, 1, none⟩ k1
  clear ho1 g1
  obtain ⟨ka, HKA⟩ : ∃ ka : Int, Hid (1 + (n1 : Int) * 2 = ka) := ⟨_, rfl⟩
  have hka : 0 < ka ∧ ka ≤ 10000000 := by have := HKA.out; omega
  rw [HKA.out]
  go_wp2_with fail
  refine (laws_markFileS ka _ HO2'.out hl2 (by omega) (by omega)).mono ?_
  rintro e w2 ⟨rfl, ho2, g2⟩
  have HM2 : Hid (w2.ownsRow B 75 2 (.slice A2 n2 c2) n2 (flat fiL (mkL fiMk 2 ka n2))) := ho2
  have HM1' : Hid (w2.ownsRow B 75 2 (.slice A1 n1 c1) n1 (flat fiL (mkL fiMk 2 1 n1))) := HM1.out.kept g2 HNE.out
  have HO3'' : Hid (w2.ownsRow B 36 4 (.slice A3 n3 c3) n3 (flat dpL d.ops)) := HO3'.out.kept g2 N32.out
  replace k2 := g2.cell (a := ⟨w.heap.size, 2, none⟩) k2 (fun e => absurd (HX2.out _ e.symm) (Nat.lt_irrefl _))
  have G2 : Hid (w1.grownBy w2 (Value.slice A2 n2 c2).ownBlock) := g2
  clear ho2 g2 k1
  obtain ⟨kb, HKB⟩ : ∃ kb : Int, Hid (ka + (n2 : Int) * 2 = kb) := ⟨_, rfl⟩
  have hkb : 0 < kb ∧ kb ≤ 20000000 := by have := HKB.out; omega
  rw [HKB.out]
  go_wp2_with fail
  refine (laws_markDOpS kb _ HO3''.out hl3 (by omega) (by omega)).mono ?_
  rintro e w3 ⟨rfl, ho3, g3⟩
  have HM3 : Hid (w3.ownsRow B 36 4 (.slice A3 n3 c3) n3 (flat dpL (mkL dpMk 4 kb n3))) := ho3
  have HM1'' : Hid (w3.ownsRow B 75 2 (.slice A1 n1 c1) n1 (flat fiL (mkL fiMk 2 1 n1))) := HM1'.out.kept g3 N13.out
  have HM2'' : Hid (w3.ownsRow B 75 2 (.slice A2 n2 c2) n2 (flat fiL (mkL fiMk 2 ka n2))) := HM2.out.kept g3 N23.out
  have G3 : Hid (w2.grownBy w3 (Value.slice A3 n3 c3).ownBlock) := g3
  clear ho3 g3 k2
  go_wp2_with fail
  go_ret
  refine ⟨ret_int (by rw [← HKB.out, ← HKA.out]), ⟨_, _, _, rfl, ?_, ?_, ?_, HNE.out⟩, ⟨_, (Below.refl _ w).alloc (Nat.le_refl _) _, _, _, _, w1, w2, rfl, G1.out, G2.out, G3.out⟩⟩
  · show w3.ownsRow B _ 2 _ (mkL fiMk 2 1 n1).length _
    rw [mkL_len]
    exact HM1''.out
  · show w3.ownsRow B _ 2 _ (mkL fiMk 2 (1 + (n1 : Int) * 2) n2).length (flat fiL (mkL fiMk 2 (1 + (n1 : Int) * 2) n2))
    rw [mkL_len, HKA.out]
    exact HM2''.out
  · show w3.ownsRow B _ 4 _ (mkL dpMk 4 (1 + (n1 : Int) * 2 + (n2 : Int) * 2) n3).length (flat dpL (mkL dpMk 4 (1 + (n1 : Int) * 2 + (n2 : Int) * 2) n3))
    rw [mkL_len, HKA.out, HKB.out]
    exact HM3.out
set_option maxHeartbeats 1000000 in
theorem laws_heldDisk {v : Value} {n1 n2 n3 : Nat} (w : World) (h : DkRow w v (dkMk 1 n1 n2 n3)) (hl1 : n1 ≤ 1048576) (hl2 : n2 ≤ 1048576) (hl3 : n3 ≤ 1048576) :
    Calls Try.prog 32 #[v, .int .i64 1] w fun e w' => e = .returned (.int .i64 (1 + (n1 : Int) * 2 + (n2 : Int) * 2 + (n3 : Int) * 4)) ∧ Below w.heap.size w w' := by
  obtain ⟨A1, c1, A2, c2, A3, c3, rfl, r1, r2, r3, z0⟩ := h
  have e1 : (dkMk 1 n1 n2 n3).live.length = n1 := mkL_len _ _ _ _
  have e2 : (dkMk 1 n1 n2 n3).safe.length = n2 := mkL_len _ _ _ _
  have e3 : (dkMk 1 n1 n2 n3).ops.length = n3 := mkL_len _ _ _ _
  rw [e1, e2, e3]
  obtain ⟨ka, HKA⟩ : ∃ ka : Int, Hid (1 + (n1 : Int) * 2 = ka) := ⟨_, rfl⟩
  obtain ⟨kb, HKB⟩ : ∃ kb : Int, Hid (ka + (n2 : Int) * 2 = kb) := ⟨_, rfl⟩
  have hka : 0 < ka ∧ ka ≤ 10000000 := by have := HKA.out; omega
  have hkb : 0 < kb ∧ kb ≤ 20000000 := by have := HKB.out; omega
  have HR1 : Hid (FiRow w A1 (mkL fiMk 2 1 n1)) := r1
  have HR2 : Hid (FiRow w A2 (mkL fiMk 2 ka n2)) := by rw [← HKA.out]; exact r2
  have HR3 : Hid (DpRow w A3 (mkL dpMk 4 kb n3)) := by rw [← HKB.out, ← HKA.out]; exact r3
  clear r1 r2 r3 z0 e1 e2 e3
  go_enter Try.func32, Try.ntmps32
  go_wp2_with fail
  refine (laws_heldFileS 1 _ (HR1.out.below (by go_grown)) hl1 (by omega) (by omega)).mono ?_
  rintro e w1 ⟨rfl, hb⟩
  have k1 := cy hb (b := w.heap.size) (o := 1) (x := .slice A2 n2 c2) (by go_simp)
  have k2 := cy hb (b := w.heap.size) (o := 2) (x := .slice A3 n3 c3) (by go_simp)
  have HB1 : Hid (Below w.heap.size w w1) := Below.trans (by go_grown) (hb.mono (by simp))
  clear hb
  rw [HKA.out]
  have q1 : ¬ ka < 0 := by omega
  go_wp2_with fail
  refine (laws_heldFileS ka _ (HR2.out.below HB1.out) hl2 (by omega) (by omega)).mono ?_
  rintro e w2 ⟨rfl, hb⟩
  replace k2 := cy hb k2
  have HB2 : Hid (Below w.heap.size w w2) := bchain HB1.out hb
  clear hb k1
  rw [HKB.out]
  have q2 : ¬ kb < 0 := by omega
  go_wp2_with fail
  refine (laws_heldDOpS kb _ (HR3.out.below HB2.out) hl3 (by omega) (by omega)).mono ?_
  rintro e w3 ⟨rfl, hb⟩
  have HB3 : Hid (Below w.heap.size w w3) := bchain HB2.out hb
  clear hb k2
  obtain ⟨kc, HKC⟩ : ∃ kc : Int, Hid (kb + (n3 : Int) * 4 = kc) := ⟨_, rfl⟩
  have q3 : ¬ kc < 0 := by have := HKC.out; omega
  rw [HKC.out]
  go_wp2_with fail
  go_ret
  exact ⟨ret_int (by rw [← HKC.out, ← HKB.out, ← HKA.out]), HB3.out⟩
end Go.Proofs.Ytanjlpgdmnapdaa
