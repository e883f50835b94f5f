import Derived.Test.YtanjlpgdmnapdaaDiB
import Derived.Test.YtanjlpgdmnapdaaSpF
namespace Go.Proofs.Ytanjlpgdmnapdaa
open Go.RowKit Go.Maps
set_option linter.unusedSimpArgs false
set_option linter.unusedVariables false

theorem DkRow.agg {w : World} {v : Value} {d : DK} (h : DkRow w v d) : ∃ a b c a' b' c' n m k, v = .agg #[.slice a n a', .slice b m b', .slice c k c'] := by
  obtain ⟨A1, c1, A2, c2, A3, c3, e, _⟩ := h
  exact ⟨_, _, _, _, _, _, _, _, _, e⟩
set_option maxRecDepth 100000 in
set_option maxHeartbeats 4000000 in
theorem law_FnExactDiskOk {v : Value} {d : DK} (w : World) (h : DkRow w v d) (hok : (∀ x ∈ d.live, fiOk x) ∧ (∀ x ∈ d.safe, fiOk x) ∧ (∀ x ∈ d.ops, dpOk x)) :
    Calls Try.prog 6 #[v] w fun e w' => e = .returned (.bool true) ∧ Below w.heap.size w w' := by
  have HR : Hid (DkRow w v d) := h
  have HOK : Hid ((∀ x ∈ d.live, fiOk x) ∧ (∀ x ∈ d.safe, fiOk x) ∧ (∀ x ∈ d.ops, dpOk x)) := hok
  obtain ⟨a1, a2, a3, b1, b2, b3, m1, m2, m3, rfl⟩ := h.agg
  clear h hok
  go_enter Try.func6, Try.ntmps6
  go_wp2_with fail
  refine (laws_szDisk 1048576 _ (HR.out.below (by go_grown)) HOK.out (by omega) (by omega)).mono ?_
  rintro e w1 ⟨z, rfl, hz, hl, hb⟩
  have k0 := cy hb (b := w.heap.size) (o := 0) (x := .slice a1 m1 b1) (by go_simp)
  have k1 := cy hb (b := w.heap.size) (o := 1) (x := .slice a2 m2 b2) (by go_simp)
  have k2 := cy hb (b := w.heap.size) (o := 2) (x := .slice a3 m3 b3) (by go_simp)
  have HB1 : Hid (Below w.heap.size w w1) := Below.trans (by go_grown) (hb.mono (by simp))
  have HL : Hid (0 ≤ z → DkLil d) := hl
  clear hb hl
  by_cases hz0 : z < 0
  · go_wp2_with fail
    go_ret
    exact ⟨rfl, HB1.out⟩
  have HLL : Hid (DkLil d) := HL.out (by omega)
  go_wp2_with fail
  refine (laws_toDisk _ (HR.out.below HB1.out) HLL.out).mono ?_
  rintro e w2 ⟨vt, rfl, ho, hb⟩
  replace k0 := cy hb k0
  replace k1 := cy hb k1
  replace k2 := cy hb k2
  have HO : Hid (DkOwn w2 w1.heap.size vt d) := ho
  have HB2 : Hid (Below w.heap.size w w2) := bchain HB1.out hb
  clear hb ho
  go_wp2_with fail
  refine (spec_DiskOk _ HO.out.row HLL.out).mono ?_
  rintro e w3 ⟨rfl, hb⟩
  replace k0 := cy hb k0
  replace k1 := cy hb k1
  replace k2 := cy hb k2
  have HB3 : Hid (Below w.heap.size w w3) := bchain HB2.out hb
  clear hb HO
  obtain ⟨rr, HRR⟩ : ∃ rr, Hid (diskB d = rr) := ⟨_, rfl⟩
  rw [HRR.out]
  go_wp2_with fail
  refine (laws_toDisk _ (HR.out.below HB3.out) HLL.out).mono ?_
  rintro e w4 ⟨vx, rfl, ho, hb⟩
  replace k0 := cy hb k0
  replace k1 := cy hb k1
  replace k2 := cy hb k2
  obtain ⟨c1, c2, c3, d1, d2, d3, l1, l2, l3, rfl⟩ := ho.row.agg
  have HX : Hid (DkOwn w4 w3.heap.size (.agg #[.slice c1 l1 d1, .slice c2 l2 d2, .slice c3 l3 d3]) d) := ho
  have HB4 : Hid (Below w.heap.size w w4) := bchain HB3.out hb
  clear hb ho
  go_wp2_with fail
  refine (impl_DiskOk _ (HX.out.row.below (by go_grown)) HLL.out).mono ?_
  rintro e w5 ⟨rfl, hb⟩
  have x0 := cy hb (b := w4.heap.size) (o := 0) (x := .slice c1 l1 d1) (by go_simp)
  have x1 := cy hb (b := w4.heap.size) (o := 1) (x := .slice c2 l2 d2) (by go_simp)
  have x2 := cy hb (b := w4.heap.size) (o := 2) (x := .slice c3 l3 d3) (by go_simp)
  have hl4 : w.heap.size < w4.heap.size := World.block_lt_of_cell? w4 ⟨w.heap.size, 0, none⟩ k0
  replace k0 := cy hb (b := w.heap.size) (o := 0) (x := .slice a1 m1 b1) (by go_simp)
  replace k1 := cy hb (b := w.heap.size) (o := 1) (x := .slice a2 m2 b2) (by go_simp)
  replace k2 := cy hb (b := w.heap.size) (o := 2) (x := .slice a3 m3 b3) (by go_simp)
  have HX5 : Hid (DkOwn w5 w3.heap.size (.agg #[.slice c1 l1 d1, .slice c2 l2 d2, .slice c3 l3 d3]) d) := (HX.out.below (by go_grown)).below hb
  have HB5 : Hid (Below w.heap.size w w5) := bchain (HB4.out.alloc HB4.out.size _) hb
  have hl5 : w.heap.size < w5.heap.size := World.block_lt_of_cell? w5 ⟨w.heap.size, 0, none⟩ k0
  have hl6 : w4.heap.size < w5.heap.size := World.block_lt_of_cell? w5 ⟨w4.heap.size, 0, none⟩ x0
  clear hb HX
  rw [HRR.out]
  go_wp2_with fail
  go_region_held3 (fun w' => (∀ bq oq, bq < w5.heap.size → w'.cell? ⟨bq, oq, none⟩ = w5.cell? ⟨bq, oq, none⟩) ∧ w5.heap.size ≤ w'.heap.size ∧ Below w5.heap.size w5 w')
    (exact sc_of (Nat.le_refl _) (by go_grown))
    (first
    | (go_at_call 27; refine (laws_toDisk _ (HR.out.below (Below.trans HB5.out (Below.mono (B := w5.heap.size) (by go_grown) (Nat.le_of_lt (Nat.lt_of_le_of_lt HB4.out.size hl6))))) HLL.out).mono ?_; rintro e w6 ⟨vy, rfl, ho6, hb⟩; obtain ⟨hk6, hz6⟩ := bframe (B := w5.heap.size) (X := w5) (by go_grown) (by go_size) hb; obtain ⟨e1, e2, e3, f1, f2, f3, j1, j2, j3, rfl⟩ := ho6.row.agg; have HY : Hid (DkRow w6 (.agg #[.slice e1 j1 f1, .slice e2 j2 f2, .slice e3 j3 f3]) d) := ho6.row; clear hb ho6)
    | (go_at_call 28; refine (laws_eqDisk _ (HX5.out.row.below hk6) HY.out).mono ?_; rintro e w7 ⟨rfl, hb⟩; obtain ⟨hk7, hz7⟩ := bframe (B := w5.heap.size) (X := w5) hk6 hz6 hb; clear hb))
  all_goals go_wp2_with fail
  all_goals
    go_ret
    exact ⟨rfl, HB5.out.trans (hk7.mono HB5.out.size)⟩
end Go.Proofs.Ytanjlpgdmnapdaa
