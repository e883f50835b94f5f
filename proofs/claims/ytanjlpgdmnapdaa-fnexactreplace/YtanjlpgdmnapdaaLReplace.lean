import Derived.Test.YtanjlpgdmnapdaaRpB
namespace Go.Proofs.Ytanjlpgdmnapdaa
open Go.RowKit Go.Maps
set_option linter.unusedSimpArgs false
set_option linter.unusedVariables false

set_option maxRecDepth 100000 in
set_option maxHeartbeats 16000000 in
theorem law_FnExactReplace {v : Value} {d : DK} (s x : ByteArray) (w : World) (h : DkRow w v d) (hok : (∀ x ∈ d.live, fiOk x) ∧ (∀ x ∈ d.safe, fiOk x) ∧ (∀ x ∈ d.ops, dpOk x)) (hs : s.size ≤ maxLen) (hx : x.size ≤ maxLen) :
    Calls Try.prog 11 #[v, .string s, .string x] w fun e w' => e = .returned (.bool true) ∧ Below w.heap.size w w' := by
  have HR : Hid (DkRow w v d) := h
  have HOK : Hid ((∀ x ∈ d.live, fiOk x) ∧ (∀ x ∈ d.safe, fiOk x) ∧ (∀ x ∈ d.ops, dpOk x)) := hok
  obtain ⟨a1, a2, a3, ac1, ac2, ac3, an1, an2, an3, rfl⟩ := h.agg
  unfold maxLen at hs hx
  obtain ⟨cd, HCD⟩ : ∃ cd, Hid (rpK d s x = cd) := ⟨_, rfl⟩
  have hcd : (cd != cd) = false := by simp
  clear h hok
  by_cases hs20 : (1048576 : Int) < (s.size : Int)
  · go_enter Try.func11, Try.ntmps11
    go_wp2_with fail
    go_ret
    exact ⟨rfl, by go_grown⟩
  by_cases hx20 : (1048576 : Int) < (x.size : Int)
  · go_enter Try.func11, Try.ntmps11
    go_wp2_with fail
    go_ret
    exact ⟨rfl, by go_grown⟩
  have hs1 : s.size ≤ 1048576 := by omega
  have hx1 : x.size ≤ 1048576 := by omega
  have HIC : Hid (∀ (w : World) (v : Value), DkRow w v d → DkLil d → Calls Try.prog 24 #[v, .string s, .string x] w fun e w' => ∃ v', e = .returned (.tuple #[v', .int .i64 cd]) ∧ DkOwn w' w.heap.size v' (rpD d s x) ∧ Below w.heap.size w w') := by
    show ∀ (w : World) (v : Value), _
    intro w v h1 h2
    have := impl_Replace s x w h1 h2 hs1 hx1
    rwa [HCD.out] at this
  have HSC : Hid (∀ (w : World) (v : Value), DkRow w v d → DkLil d → Calls Try.prog 25 #[v, .string s, .string x] w fun e w' => ∃ v', e = .returned (.tuple #[v', .int .i64 cd]) ∧ DkHas w' w.heap.size v' (rpD d s x) ∧ Below w.heap.size w w') := by
    show ∀ (w : World) (v : Value), _
    intro w v h1 h2
    have := spec_Replace s x w h1 h2 hs1 hx1
    rwa [HCD.out] at this
  clear hs hx
  go_enter Try.func11, Try.ntmps11
  go_wp2_with fail
  refine (laws_szDisk 1048576 _ (HR.out.below (by go_grown)) HOK.out (by omega) (by omega)).mono ?_
  rintro e u1 ⟨z, rfl, hz, hl, hb⟩
  have a_0 := cy hb (b := w.heap.size) (o := 0) (x := .slice a1 an1 ac1) (by go_simp)
  have a_1 := cy hb (b := w.heap.size) (o := 1) (x := .slice a2 an2 ac2) (by go_simp)
  have a_2 := cy hb (b := w.heap.size) (o := 2) (x := .slice a3 an3 ac3) (by go_simp)
  have K1 : Hid (Below w.heap.size w u1) := Below.trans (by go_grown) (hb.mono (by simp))
  have HL : Hid (0 ≤ z → DkLil d) := hl
  clear hb hl
  by_cases hz0 : z < 0
  · go_wp2_with fail
    go_ret
    exact ⟨rfl, K1.out⟩
  have HLL : Hid (DkLil d) := HL.out (by omega)
  have zu1a : w.heap.size < u1.heap.size := World.block_lt_of_cell? u1 ⟨w.heap.size, 0, none⟩ a_0
  go_wp2_with fail
  refine (laws_toDisk _ (HR.out.below K1.out) HLL.out).mono ?_
  rintro e u2 ⟨vt, rfl, ho, hb⟩
  replace a_0 := cy hb (b := w.heap.size) (o := 0) (x := .slice a1 an1 ac1) (by go_simp)
  replace a_1 := cy hb (b := w.heap.size) (o := 1) (x := .slice a2 an2 ac2) (by go_simp)
  replace a_2 := cy hb (b := w.heap.size) (o := 2) (x := .slice a3 an3 ac3) (by go_simp)
  have HO2 : Hid (DkRow u2 vt d) := ho.row
  have K2 : Hid (Below w.heap.size w u2) := bchain K1.out hb
  clear hb ho
  have zu2a : w.heap.size < u2.heap.size := World.block_lt_of_cell? u2 ⟨w.heap.size, 0, none⟩ a_0
  go_wp2_with fail
  refine (HSC.out _ _ HO2.out HLL.out).mono ?_
  rintro e u3 ⟨vo, rfl, ho, hb⟩
  replace a_0 := cy hb (b := w.heap.size) (o := 0) (x := .slice a1 an1 ac1) (by go_simp)
  replace a_1 := cy hb (b := w.heap.size) (o := 1) (x := .slice a2 an2 ac2) (by go_simp)
  replace a_2 := cy hb (b := w.heap.size) (o := 2) (x := .slice a3 an3 ac3) (by go_simp)
  obtain ⟨o1, o2, o3, oc1, oc2, oc3, on1, on2, on3, rfl⟩ := ho.row.agg
  have O3 : Hid (DkRow u3 (.agg #[.slice o1 on1 oc1, .slice o2 on2 oc2, .slice o3 on3 oc3]) (rpD d s x)) := ho.row
  have K3 : Hid (Below w.heap.size w u3) := bchain K2.out hb
  clear hb ho HO2
  have zu3a : w.heap.size < u3.heap.size := World.block_lt_of_cell? u3 ⟨w.heap.size, 0, none⟩ a_0
  go_wp2_with fail
  refine (laws_toDisk _ (HR.out.below (K3.out.alloc K3.out.size _)) HLL.out).mono ?_
  rintro e u4 ⟨vx, rfl, ho, hb⟩
  replace a_0 := cy hb (b := w.heap.size) (o := 0) (x := .slice a1 an1 ac1) (by go_simp)
  replace a_1 := cy hb (b := w.heap.size) (o := 1) (x := .slice a2 an2 ac2) (by go_simp)
  replace a_2 := cy hb (b := w.heap.size) (o := 2) (x := .slice a3 an3 ac3) (by go_simp)
  have o_0 := cy hb (b := u3.heap.size) (o := 0) (x := .slice o1 on1 oc1) (by go_simp)
  have o_1 := cy hb (b := u3.heap.size) (o := 1) (x := .slice o2 on2 oc2) (by go_simp)
  have o_2 := cy hb (b := u3.heap.size) (o := 2) (x := .slice o3 on3 oc3) (by go_simp)
  obtain ⟨x1, x2, x3, xc1, xc2, xc3, xn1, xn2, xn3, rfl⟩ := ho.row.agg
  have X4 : Hid (DkOwn u4 (u3.heap.size + 1) (.agg #[.slice x1 xn1 xc1, .slice x2 xn2 xc2, .slice x3 xn3 xc3]) d) := ho.mono (by simp)
  have K4 : Hid (Below w.heap.size w u4) := bchain (K3.out.alloc K3.out.size _) hb
  have O4 : Hid (Below u3.heap.size u3 u4) := bchain ((Below.refl _ _).alloc (Nat.le_refl _) _) hb
  have XB : Hid (∀ q, some q ∈ blks (.agg #[.slice x1 xn1 xc1, .slice x2 xn2 xc2, .slice x3 xn3 xc3]) → u3.heap.size + 1 ≤ q ∧ q < u4.heap.size) := X4.out.blk
  clear hb ho
  have zu4a : w.heap.size < u4.heap.size := World.block_lt_of_cell? u4 ⟨w.heap.size, 0, none⟩ a_0
  have zu4o : u3.heap.size < u4.heap.size := World.block_lt_of_cell? u4 ⟨u3.heap.size, 0, none⟩ o_0
  go_wp2_with fail
  obtain ⟨v4, HV4⟩ : ∃ v4, Hid ((u4.alloc (.cells #[.slice x1 xn1 xc1, .slice x2 xn2 xc2, .slice x3 xn3 xc3] 27)) = v4) := ⟨_, rfl⟩
  rw [HV4.out]
  have hb : Below u4.heap.size u4 v4 := by rw [← HV4.out]; exact (Below.refl _ _).alloc (Nat.le_refl _) _
  have x_0 : v4.cell? ⟨u4.heap.size, 0, none⟩ = some (.slice x1 xn1 xc1) := by rw [← HV4.out]; go_simp
  have x_1 : v4.cell? ⟨u4.heap.size, 1, none⟩ = some (.slice x2 xn2 xc2) := by rw [← HV4.out]; go_simp
  have x_2 : v4.cell? ⟨u4.heap.size, 2, none⟩ = some (.slice x3 xn3 xc3) := by rw [← HV4.out]; go_simp
  replace a_0 := cy hb (b := w.heap.size) (o := 0) (x := .slice a1 an1 ac1) (by go_simp)
  replace a_1 := cy hb (b := w.heap.size) (o := 1) (x := .slice a2 an2 ac2) (by go_simp)
  replace a_2 := cy hb (b := w.heap.size) (o := 2) (x := .slice a3 an3 ac3) (by go_simp)
  replace o_0 := cy hb (b := u3.heap.size) (o := 0) (x := .slice o1 on1 oc1) (by go_simp)
  replace o_1 := cy hb (b := u3.heap.size) (o := 1) (x := .slice o2 on2 oc2) (by go_simp)
  replace o_2 := cy hb (b := u3.heap.size) (o := 2) (x := .slice o3 on3 oc3) (by go_simp)
  have X4b : Hid (DkOwn v4 (u3.heap.size + 1) (.agg #[.slice x1 xn1 xc1, .slice x2 xn2 xc2, .slice x3 xn3 xc3]) d) := X4.out.below hb
  have L4 : Hid (Below w.heap.size w v4) := bchain K4.out hb
  have O4b : Hid (Below u3.heap.size u3 v4) := bchain O4.out hb
  clear hb X4
  have zv4a : w.heap.size < v4.heap.size := World.block_lt_of_cell? v4 ⟨w.heap.size, 0, none⟩ a_0
  have zv4o : u3.heap.size < v4.heap.size := World.block_lt_of_cell? v4 ⟨u3.heap.size, 0, none⟩ o_0
  have zv4x : u4.heap.size < v4.heap.size := World.block_lt_of_cell? v4 ⟨u4.heap.size, 0, none⟩ x_0
  refine (HIC.out _ _ X4b.out.row HLL.out).mono ?_
  rintro e u5 ⟨vg, rfl, ho, hb⟩
  replace a_0 := cy hb (b := w.heap.size) (o := 0) (x := .slice a1 an1 ac1) (by go_simp)
  replace a_1 := cy hb (b := w.heap.size) (o := 1) (x := .slice a2 an2 ac2) (by go_simp)
  replace a_2 := cy hb (b := w.heap.size) (o := 2) (x := .slice a3 an3 ac3) (by go_simp)
  replace o_0 := cy hb (b := u3.heap.size) (o := 0) (x := .slice o1 on1 oc1) (by go_simp)
  replace o_1 := cy hb (b := u3.heap.size) (o := 1) (x := .slice o2 on2 oc2) (by go_simp)
  replace o_2 := cy hb (b := u3.heap.size) (o := 2) (x := .slice o3 on3 oc3) (by go_simp)
  replace x_0 := cy hb (b := u4.heap.size) (o := 0) (x := .slice x1 xn1 xc1) (by go_simp)
  replace x_1 := cy hb (b := u4.heap.size) (o := 1) (x := .slice x2 xn2 xc2) (by go_simp)
  replace x_2 := cy hb (b := u4.heap.size) (o := 2) (x := .slice x3 xn3 xc3) (by go_simp)
  obtain ⟨g1, g2, g3, gc1, gc2, gc3, gn1, gn2, gn3, rfl⟩ := ho.row.agg
  have G5 : Hid (DkOwn u5 v4.heap.size (.agg #[.slice g1 gn1 gc1, .slice g2 gn2 gc2, .slice g3 gn3 gc3]) (rpD d s x)) := ho
  have X5 : Hid (DkOwn u5 (u3.heap.size + 1) (.agg #[.slice x1 xn1 xc1, .slice x2 xn2 xc2, .slice x3 xn3 xc3]) d) := X4b.out.below hb
  have K5 : Hid (Below w.heap.size w u5) := bchain L4.out hb
  have O5 : Hid (Below u3.heap.size u3 u5) := bchain O4b.out hb
  have GB : Hid (∀ q, some q ∈ blks (.agg #[.slice g1 gn1 gc1, .slice g2 gn2 gc2, .slice g3 gn3 gc3]) → v4.heap.size ≤ q ∧ q < u5.heap.size) := G5.out.blk
  have NGX : Hid (Apart (.agg #[.slice g1 gn1 gc1, .slice g2 gn2 gc2, .slice g3 gn3 gc3]) (.agg #[.slice x1 xn1 xc1, .slice x2 xn2 xc2, .slice x3 xn3 xc3])) := (apart_of X4b.out G5.out (Nat.le_refl _)).2
  have z45 : v4.heap.size ≤ u5.heap.size := hb.size
  clear hb ho X4b
  have zu5a : w.heap.size < u5.heap.size := World.block_lt_of_cell? u5 ⟨w.heap.size, 0, none⟩ a_0
  have zu5o : u3.heap.size < u5.heap.size := World.block_lt_of_cell? u5 ⟨u3.heap.size, 0, none⟩ o_0
  have zu5x : u4.heap.size < u5.heap.size := World.block_lt_of_cell? u5 ⟨u4.heap.size, 0, none⟩ x_0
  go_wp2_with fail
  refine (laws_eqDisk _ (G5.out.row.below ((Below.refl _ _).alloc (Nat.le_refl _) _)) (O3.out.below (O5.out.alloc O5.out.size _))).mono ?_
  rintro e u6 ⟨rfl, hb⟩
  replace a_0 := cy hb (b := w.heap.size) (o := 0) (x := .slice a1 an1 ac1) (by go_simp)
  replace a_1 := cy hb (b := w.heap.size) (o := 1) (x := .slice a2 an2 ac2) (by go_simp)
  replace a_2 := cy hb (b := w.heap.size) (o := 2) (x := .slice a3 an3 ac3) (by go_simp)
  replace o_0 := cy hb (b := u3.heap.size) (o := 0) (x := .slice o1 on1 oc1) (by go_simp)
  replace o_1 := cy hb (b := u3.heap.size) (o := 1) (x := .slice o2 on2 oc2) (by go_simp)
  replace o_2 := cy hb (b := u3.heap.size) (o := 2) (x := .slice o3 on3 oc3) (by go_simp)
  replace x_0 := cy hb (b := u4.heap.size) (o := 0) (x := .slice x1 xn1 xc1) (by go_simp)
  replace x_1 := cy hb (b := u4.heap.size) (o := 1) (x := .slice x2 xn2 xc2) (by go_simp)
  replace x_2 := cy hb (b := u4.heap.size) (o := 2) (x := .slice x3 xn3 xc3) (by go_simp)
  have g_0 := cy hb (b := u5.heap.size) (o := 0) (x := .slice g1 gn1 gc1) (by go_simp)
  have g_1 := cy hb (b := u5.heap.size) (o := 1) (x := .slice g2 gn2 gc2) (by go_simp)
  have g_2 := cy hb (b := u5.heap.size) (o := 2) (x := .slice g3 gn3 gc3) (by go_simp)
  have hbb : Below u5.heap.size u5 u6 := Below.trans (by go_grown) (hb.mono (by simp))
  have G6 : Hid (DkOwn u6 v4.heap.size (.agg #[.slice g1 gn1 gc1, .slice g2 gn2 gc2, .slice g3 gn3 gc3]) (rpD d s x)) := G5.out.below hbb
  have X6 : Hid (DkOwn u6 (u3.heap.size + 1) (.agg #[.slice x1 xn1 xc1, .slice x2 xn2 xc2, .slice x3 xn3 xc3]) d) := X5.out.below hbb
  have K6 : Hid (Below w.heap.size w u6) := bchain K5.out hbb
  have O6 : Hid (Below u3.heap.size u3 u6) := bchain O5.out hbb
  clear hb hbb G5 X5
  have zu6a : w.heap.size < u6.heap.size := World.block_lt_of_cell? u6 ⟨w.heap.size, 0, none⟩ a_0
  have zu6o : u3.heap.size < u6.heap.size := World.block_lt_of_cell? u6 ⟨u3.heap.size, 0, none⟩ o_0
  have zu6x : u4.heap.size < u6.heap.size := World.block_lt_of_cell? u6 ⟨u4.heap.size, 0, none⟩ x_0
  have zu6g : u5.heap.size < u6.heap.size := World.block_lt_of_cell? u6 ⟨u5.heap.size, 0, none⟩ g_0
  go_wp2_with fail
  go_region_held3 (fun w' => (∀ bq oq, bq < u6.heap.size → w'.cell? ⟨bq, oq, none⟩ = u6.cell? ⟨bq, oq, none⟩) ∧ u6.heap.size ≤ w'.heap.size ∧ Below u6.heap.size u6 w')
    (exact sc_of (Nat.le_refl _) (by go_grown))
    (first
    | (go_at_call 27; refine (laws_toDisk _ (HR.out.below (Below.trans K6.out (Below.mono (B := u6.heap.size) (by go_grown) K6.out.size))) HLL.out).mono ?_; rintro e y6 ⟨vy, rfl, ho6, hb⟩; obtain ⟨hk6, hz6⟩ := bframe (B := u6.heap.size) (X := u6) (by go_grown) (by go_size) hb; obtain ⟨e1, e2, e3, f1, f2, f3, j1, j2, j3, rfl⟩ := ho6.row.agg; have HY : Hid (DkRow y6 (.agg #[.slice e1 j1 f1, .slice e2 j2 f2, .slice e3 j3 f3]) d) := ho6.row; clear hb ho6)
    | (go_at_call 28; refine (laws_eqDisk _ (X6.out.row.below hk6) HY.out).mono ?_; rintro e u7 ⟨rfl, hb⟩; obtain ⟨hk7, hz7⟩ := bframe (B := u6.heap.size) (X := u6) hk6 hz6 hb; clear hb))
  have a_0q := a_0
  replace a_0 := cy hk7 a_0
  have a_1q := a_1
  replace a_1 := cy hk7 a_1
  have a_2q := a_2
  replace a_2 := cy hk7 a_2
  have o_0q := o_0
  replace o_0 := cy hk7 o_0
  have o_1q := o_1
  replace o_1 := cy hk7 o_1
  have o_2q := o_2
  replace o_2 := cy hk7 o_2
  have x_0q := x_0
  replace x_0 := cy hk7 x_0
  have x_1q := x_1
  replace x_1 := cy hk7 x_1
  have x_2q := x_2
  replace x_2 := cy hk7 x_2
  have g_0q := g_0
  replace g_0 := cy hk7 g_0
  have g_1q := g_1
  replace g_1 := cy hk7 g_1
  have g_2q := g_2
  replace g_2 := cy hk7 g_2
  have G7 : Hid (DkOwn u7 v4.heap.size (.agg #[.slice g1 gn1 gc1, .slice g2 gn2 gc2, .slice g3 gn3 gc3]) (rpD d s x)) := G6.out.below hk7
  have X7 : Hid (DkOwn u7 (u3.heap.size + 1) (.agg #[.slice x1 xn1 xc1, .slice x2 xn2 xc2, .slice x3 xn3 xc3]) d) := X6.out.below hk7
  have K7 : Hid (Below w.heap.size w u7) := bchain K6.out hk7
  have O7 : Hid (Below u3.heap.size u3 u7) := bchain O6.out hk7
  clear hk6 hk7 HY G6 X6
  have zu7a : w.heap.size < u7.heap.size := World.block_lt_of_cell? u7 ⟨w.heap.size, 0, none⟩ a_0
  have zu7o : u3.heap.size < u7.heap.size := World.block_lt_of_cell? u7 ⟨u3.heap.size, 0, none⟩ o_0
  have zu7x : u4.heap.size < u7.heap.size := World.block_lt_of_cell? u7 ⟨u4.heap.size, 0, none⟩ x_0
  have zu7g : u5.heap.size < u7.heap.size := World.block_lt_of_cell? u7 ⟨u5.heap.size, 0, none⟩ g_0
  go_wp2_with fail
  refine (laws_markDisk _ X7.out (by omega) ⟨HLL.out.n1, HLL.out.n2, HLL.out.n3⟩).mono ?_
  rintro e u8 ⟨rfl, _, y8, hb, gk⟩
  replace a_0 := cell_kept3 a_0 hb gk (fun hq => by have := XB.out _ hq; omega)
  replace a_1 := cell_kept3 a_1 hb gk (fun hq => by have := XB.out _ hq; omega)
  replace a_2 := cell_kept3 a_2 hb gk (fun hq => by have := XB.out _ hq; omega)
  replace o_0 := cell_kept3 o_0 hb gk (fun hq => by have := XB.out _ hq; omega)
  replace o_1 := cell_kept3 o_1 hb gk (fun hq => by have := XB.out _ hq; omega)
  replace o_2 := cell_kept3 o_2 hb gk (fun hq => by have := XB.out _ hq; omega)
  replace x_0 := cell_kept3 x_0 hb gk (fun hq => by have := XB.out _ hq; omega)
  replace x_1 := cell_kept3 x_1 hb gk (fun hq => by have := XB.out _ hq; omega)
  replace x_2 := cell_kept3 x_2 hb gk (fun hq => by have := XB.out _ hq; omega)
  replace g_0 := cell_kept3 g_0 hb gk (fun hq => by have := XB.out _ hq; omega)
  replace g_1 := cell_kept3 g_1 hb gk (fun hq => by have := XB.out _ hq; omega)
  replace g_2 := cell_kept3 g_2 hb gk (fun hq => by have := XB.out _ hq; omega)
  have G8b : Hid (DkOwn u8 v4.heap.size (.agg #[.slice g1 gn1 gc1, .slice g2 gn2 gc2, .slice g3 gn3 gc3]) (rpD d s x)) := (G7.out.below hb).kept gk NGX.out
  have K8b : Hid (Below w.heap.size w u8) := below_grown3 (bchain K7.out hb) (Nat.le_trans K7.out.size hb.size) gk (fun q hq => by have := XB.out q hq; omega)
  have O8b : Hid (Below u3.heap.size u3 u8) := below_grown3 (bchain O7.out hb) (Nat.le_trans O7.out.size hb.size) gk (fun q hq => by have := XB.out q hq; omega)
  clear hb gk G7 X7
  obtain ⟨kk, HKK⟩ : ∃ kk : Int, Hid (1 + (d.live.length : Int) * 2 + (d.safe.length : Int) * 2 + (d.ops.length : Int) * 4 = kk) := ⟨_, rfl⟩
  have hkk : ¬ kk < 0 := by have := HKK.out; omega
  have hkk9 : kk ≤ 1099511627 := by have := HKK.out; have := HLL.out.n1; have := HLL.out.n2; have := HLL.out.n3; omega
  rw [HKK.out]
  have zu8a : w.heap.size < u8.heap.size := World.block_lt_of_cell? u8 ⟨w.heap.size, 0, none⟩ a_0
  have zu8o : u3.heap.size < u8.heap.size := World.block_lt_of_cell? u8 ⟨u3.heap.size, 0, none⟩ o_0
  have zu8x : u4.heap.size < u8.heap.size := World.block_lt_of_cell? u8 ⟨u4.heap.size, 0, none⟩ x_0
  have zu8g : u5.heap.size < u8.heap.size := World.block_lt_of_cell? u8 ⟨u5.heap.size, 0, none⟩ g_0
  go_wp2_with fail
  refine (laws_eqDisk _ G8b.out.row (O3.out.below O8b.out)).mono ?_
  rintro e u9 ⟨rfl, hb⟩
  replace a_0 := cy hb (b := w.heap.size) (o := 0) (x := .slice a1 an1 ac1) (by go_simp)
  replace a_1 := cy hb (b := w.heap.size) (o := 1) (x := .slice a2 an2 ac2) (by go_simp)
  replace a_2 := cy hb (b := w.heap.size) (o := 2) (x := .slice a3 an3 ac3) (by go_simp)
  replace o_0 := cy hb (b := u3.heap.size) (o := 0) (x := .slice o1 on1 oc1) (by go_simp)
  replace o_1 := cy hb (b := u3.heap.size) (o := 1) (x := .slice o2 on2 oc2) (by go_simp)
  replace o_2 := cy hb (b := u3.heap.size) (o := 2) (x := .slice o3 on3 oc3) (by go_simp)
  replace x_0 := cy hb (b := u4.heap.size) (o := 0) (x := .slice x1 xn1 xc1) (by go_simp)
  replace x_1 := cy hb (b := u4.heap.size) (o := 1) (x := .slice x2 xn2 xc2) (by go_simp)
  replace x_2 := cy hb (b := u4.heap.size) (o := 2) (x := .slice x3 xn3 xc3) (by go_simp)
  replace g_0 := cy hb (b := u5.heap.size) (o := 0) (x := .slice g1 gn1 gc1) (by go_simp)
  replace g_1 := cy hb (b := u5.heap.size) (o := 1) (x := .slice g2 gn2 gc2) (by go_simp)
  replace g_2 := cy hb (b := u5.heap.size) (o := 2) (x := .slice g3 gn3 gc3) (by go_simp)
  have G9 : Hid (DkOwn u9 v4.heap.size (.agg #[.slice g1 gn1 gc1, .slice g2 gn2 gc2, .slice g3 gn3 gc3]) (rpD d s x)) := G8b.out.below hb
  have K9 : Hid (Below w.heap.size w u9) := bchain K8b.out hb
  have O9 : Hid (Below u3.heap.size u3 u9) := bchain O8b.out hb
  clear hb G8b
  have zu9a : w.heap.size < u9.heap.size := World.block_lt_of_cell? u9 ⟨w.heap.size, 0, none⟩ a_0
  have zu9o : u3.heap.size < u9.heap.size := World.block_lt_of_cell? u9 ⟨u3.heap.size, 0, none⟩ o_0
  have zu9x : u4.heap.size < u9.heap.size := World.block_lt_of_cell? u9 ⟨u4.heap.size, 0, none⟩ x_0
  have zu9g : u5.heap.size < u9.heap.size := World.block_lt_of_cell? u9 ⟨u5.heap.size, 0, none⟩ g_0
  go_wp2_with fail
  refine (laws_markDisk _ G9.out (by omega) (rpD_len hs1 hx1 HLL.out)).mono ?_
  rintro e u10 ⟨rfl, hm, y10, hb, gk⟩
  replace a_0 := cell_kept3 a_0 hb gk (fun hq => by have := GB.out _ hq; omega)
  replace a_1 := cell_kept3 a_1 hb gk (fun hq => by have := GB.out _ hq; omega)
  replace a_2 := cell_kept3 a_2 hb gk (fun hq => by have := GB.out _ hq; omega)
  replace o_0 := cell_kept3 o_0 hb gk (fun hq => by have := GB.out _ hq; omega)
  replace o_1 := cell_kept3 o_1 hb gk (fun hq => by have := GB.out _ hq; omega)
  replace o_2 := cell_kept3 o_2 hb gk (fun hq => by have := GB.out _ hq; omega)
  replace x_0 := cell_kept3 x_0 hb gk (fun hq => by have := GB.out _ hq; omega)
  replace x_1 := cell_kept3 x_1 hb gk (fun hq => by have := GB.out _ hq; omega)
  replace x_2 := cell_kept3 x_2 hb gk (fun hq => by have := GB.out _ hq; omega)
  replace g_0 := cell_kept3 g_0 hb gk (fun hq => by have := GB.out _ hq; omega)
  replace g_1 := cell_kept3 g_1 hb gk (fun hq => by have := GB.out _ hq; omega)
  replace g_2 := cell_kept3 g_2 hb gk (fun hq => by have := GB.out _ hq; omega)
  obtain ⟨m1, HM1⟩ : ∃ m1, Hid (((rpD d s x)).live.length = m1) := ⟨_, rfl⟩
  obtain ⟨m2, HM2⟩ : ∃ m2, Hid (((rpD d s x)).safe.length = m2) := ⟨_, rfl⟩
  obtain ⟨m3, HM3⟩ : ∃ m3, Hid (((rpD d s x)).ops.length = m3) := ⟨_, rfl⟩
  have hm123 : m1 ≤ 1048576 ∧ m2 ≤ 1048576 ∧ m3 ≤ 1048576 := by rw [← HM1.out, ← HM2.out, ← HM3.out]; exact rpD_len hs1 hx1 HLL.out
  rw [HM1.out, HM2.out, HM3.out] at hm ⊢
  have M10 : Hid (DkOwn u10 v4.heap.size (.agg #[.slice g1 gn1 gc1, .slice g2 gn2 gc2, .slice g3 gn3 gc3]) (dkMk 1 m1 m2 m3)) := hm
  have K10 : Hid (Below w.heap.size w u10) := below_grown3 (bchain K9.out hb) (Nat.le_trans K9.out.size hb.size) gk (fun q hq => by have := GB.out q hq; omega)
  have O10 : Hid (Below u3.heap.size u3 u10) := below_grown3 (bchain O9.out hb) (Nat.le_trans O9.out.size hb.size) gk (fun q hq => by have := GB.out q hq; omega)
  clear hb gk hm G9
  obtain ⟨mm, HMM⟩ : ∃ mm : Int, Hid (1 + (m1 : Int) * 2 + (m2 : Int) * 2 + (m3 : Int) * 4 = mm) := ⟨_, rfl⟩
  have hmm : ¬ mm < 0 := by have := HMM.out; omega
  have hmn : (mm != mm) = false := by simp
  rw [HMM.out]
  have zu10a : w.heap.size < u10.heap.size := World.block_lt_of_cell? u10 ⟨w.heap.size, 0, none⟩ a_0
  have zu10o : u3.heap.size < u10.heap.size := World.block_lt_of_cell? u10 ⟨u3.heap.size, 0, none⟩ o_0
  have zu10x : u4.heap.size < u10.heap.size := World.block_lt_of_cell? u10 ⟨u4.heap.size, 0, none⟩ x_0
  have zu10g : u5.heap.size < u10.heap.size := World.block_lt_of_cell? u10 ⟨u5.heap.size, 0, none⟩ g_0
  go_wp2_with fail
  refine (laws_heldDisk _ M10.out.row hm123.1 hm123.2.1 hm123.2.2).mono ?_
  rintro e u11 ⟨rfl, hb⟩
  replace a_0 := cy hb (b := w.heap.size) (o := 0) (x := .slice a1 an1 ac1) (by go_simp)
  replace a_1 := cy hb (b := w.heap.size) (o := 1) (x := .slice a2 an2 ac2) (by go_simp)
  replace a_2 := cy hb (b := w.heap.size) (o := 2) (x := .slice a3 an3 ac3) (by go_simp)
  replace o_0 := cy hb (b := u3.heap.size) (o := 0) (x := .slice o1 on1 oc1) (by go_simp)
  replace o_1 := cy hb (b := u3.heap.size) (o := 1) (x := .slice o2 on2 oc2) (by go_simp)
  replace o_2 := cy hb (b := u3.heap.size) (o := 2) (x := .slice o3 on3 oc3) (by go_simp)
  replace x_0 := cy hb (b := u4.heap.size) (o := 0) (x := .slice x1 xn1 xc1) (by go_simp)
  replace x_1 := cy hb (b := u4.heap.size) (o := 1) (x := .slice x2 xn2 xc2) (by go_simp)
  replace x_2 := cy hb (b := u4.heap.size) (o := 2) (x := .slice x3 xn3 xc3) (by go_simp)
  replace g_0 := cy hb (b := u5.heap.size) (o := 0) (x := .slice g1 gn1 gc1) (by go_simp)
  replace g_1 := cy hb (b := u5.heap.size) (o := 1) (x := .slice g2 gn2 gc2) (by go_simp)
  replace g_2 := cy hb (b := u5.heap.size) (o := 2) (x := .slice g3 gn3 gc3) (by go_simp)
  have M11 : Hid (DkOwn u11 v4.heap.size (.agg #[.slice g1 gn1 gc1, .slice g2 gn2 gc2, .slice g3 gn3 gc3]) (dkMk 1 m1 m2 m3)) := M10.out.below hb
  have K11 : Hid (Below w.heap.size w u11) := bchain K10.out hb
  have O11 : Hid (Below u3.heap.size u3 u11) := bchain O10.out hb
  clear hb M10
  rw [HMM.out]
  have zu11a : w.heap.size < u11.heap.size := World.block_lt_of_cell? u11 ⟨w.heap.size, 0, none⟩ a_0
  have zu11o : u3.heap.size < u11.heap.size := World.block_lt_of_cell? u11 ⟨u3.heap.size, 0, none⟩ o_0
  have zu11x : u4.heap.size < u11.heap.size := World.block_lt_of_cell? u11 ⟨u4.heap.size, 0, none⟩ x_0
  have zu11g : u5.heap.size < u11.heap.size := World.block_lt_of_cell? u11 ⟨u5.heap.size, 0, none⟩ g_0
  go_wp2_with fail
  refine (laws_toDisk _ (HR.out.below K11.out) HLL.out).mono ?_
  rintro e u12 ⟨vz, rfl, ho, hb⟩
  replace a_0 := cy hb (b := w.heap.size) (o := 0) (x := .slice a1 an1 ac1) (by go_simp)
  replace a_1 := cy hb (b := w.heap.size) (o := 1) (x := .slice a2 an2 ac2) (by go_simp)
  replace a_2 := cy hb (b := w.heap.size) (o := 2) (x := .slice a3 an3 ac3) (by go_simp)
  replace o_0 := cy hb (b := u3.heap.size) (o := 0) (x := .slice o1 on1 oc1) (by go_simp)
  replace o_1 := cy hb (b := u3.heap.size) (o := 1) (x := .slice o2 on2 oc2) (by go_simp)
  replace o_2 := cy hb (b := u3.heap.size) (o := 2) (x := .slice o3 on3 oc3) (by go_simp)
  replace x_0 := cy hb (b := u4.heap.size) (o := 0) (x := .slice x1 xn1 xc1) (by go_simp)
  replace x_1 := cy hb (b := u4.heap.size) (o := 1) (x := .slice x2 xn2 xc2) (by go_simp)
  replace x_2 := cy hb (b := u4.heap.size) (o := 2) (x := .slice x3 xn3 xc3) (by go_simp)
  replace g_0 := cy hb (b := u5.heap.size) (o := 0) (x := .slice g1 gn1 gc1) (by go_simp)
  replace g_1 := cy hb (b := u5.heap.size) (o := 1) (x := .slice g2 gn2 gc2) (by go_simp)
  replace g_2 := cy hb (b := u5.heap.size) (o := 2) (x := .slice g3 gn3 gc3) (by go_simp)
  have Z12 : Hid (DkRow u12 vz d) := ho.row
  have M12 : Hid (DkOwn u12 v4.heap.size (.agg #[.slice g1 gn1 gc1, .slice g2 gn2 gc2, .slice g3 gn3 gc3]) (dkMk 1 m1 m2 m3)) := M11.out.below hb
  have K12 : Hid (Below w.heap.size w u12) := bchain K11.out hb
  have O12 : Hid (Below u3.heap.size u3 u12) := bchain O11.out hb
  clear hb ho M11
  have zu12a : w.heap.size < u12.heap.size := World.block_lt_of_cell? u12 ⟨w.heap.size, 0, none⟩ a_0
  have zu12o : u3.heap.size < u12.heap.size := World.block_lt_of_cell? u12 ⟨u3.heap.size, 0, none⟩ o_0
  have zu12x : u4.heap.size < u12.heap.size := World.block_lt_of_cell? u12 ⟨u4.heap.size, 0, none⟩ x_0
  have zu12g : u5.heap.size < u12.heap.size := World.block_lt_of_cell? u12 ⟨u5.heap.size, 0, none⟩ g_0
  go_wp2_with fail
  refine (HIC.out _ _ Z12.out HLL.out).mono ?_
  rintro e u13 ⟨vh, rfl, ho, hb⟩
  replace a_0 := cy hb (b := w.heap.size) (o := 0) (x := .slice a1 an1 ac1) (by go_simp)
  replace a_1 := cy hb (b := w.heap.size) (o := 1) (x := .slice a2 an2 ac2) (by go_simp)
  replace a_2 := cy hb (b := w.heap.size) (o := 2) (x := .slice a3 an3 ac3) (by go_simp)
  replace o_0 := cy hb (b := u3.heap.size) (o := 0) (x := .slice o1 on1 oc1) (by go_simp)
  replace o_1 := cy hb (b := u3.heap.size) (o := 1) (x := .slice o2 on2 oc2) (by go_simp)
  replace o_2 := cy hb (b := u3.heap.size) (o := 2) (x := .slice o3 on3 oc3) (by go_simp)
  replace x_0 := cy hb (b := u4.heap.size) (o := 0) (x := .slice x1 xn1 xc1) (by go_simp)
  replace x_1 := cy hb (b := u4.heap.size) (o := 1) (x := .slice x2 xn2 xc2) (by go_simp)
  replace x_2 := cy hb (b := u4.heap.size) (o := 2) (x := .slice x3 xn3 xc3) (by go_simp)
  replace g_0 := cy hb (b := u5.heap.size) (o := 0) (x := .slice g1 gn1 gc1) (by go_simp)
  replace g_1 := cy hb (b := u5.heap.size) (o := 1) (x := .slice g2 gn2 gc2) (by go_simp)
  replace g_2 := cy hb (b := u5.heap.size) (o := 2) (x := .slice g3 gn3 gc3) (by go_simp)
  obtain ⟨h1, h2, h3, hc1, hc2, hc3, hn1, hn2, hn3, rfl⟩ := ho.row.agg
  have H13 : Hid (DkRow u13 (.agg #[.slice h1 hn1 hc1, .slice h2 hn2 hc2, .slice h3 hn3 hc3]) (rpD d s x)) := ho.row
  have M13 : Hid (DkOwn u13 v4.heap.size (.agg #[.slice g1 gn1 gc1, .slice g2 gn2 gc2, .slice g3 gn3 gc3]) (dkMk 1 m1 m2 m3)) := M12.out.below hb
  have K13 : Hid (Below w.heap.size w u13) := bchain K12.out hb
  have O13 : Hid (Below u3.heap.size u3 u13) := bchain O12.out hb
  clear hb ho Z12 M12
  have zu13a : w.heap.size < u13.heap.size := World.block_lt_of_cell? u13 ⟨w.heap.size, 0, none⟩ a_0
  have zu13o : u3.heap.size < u13.heap.size := World.block_lt_of_cell? u13 ⟨u3.heap.size, 0, none⟩ o_0
  have zu13x : u4.heap.size < u13.heap.size := World.block_lt_of_cell? u13 ⟨u4.heap.size, 0, none⟩ x_0
  have zu13g : u5.heap.size < u13.heap.size := World.block_lt_of_cell? u13 ⟨u5.heap.size, 0, none⟩ g_0
  go_wp2_with fail
  refine (laws_eqDisk _ (H13.out.below ((Below.refl _ _).alloc (Nat.le_refl _) _)) (O3.out.below (O13.out.alloc O13.out.size _))).mono ?_
  rintro e u14 ⟨rfl, hb⟩
  replace a_0 := cy hb (b := w.heap.size) (o := 0) (x := .slice a1 an1 ac1) (by go_simp)
  replace a_1 := cy hb (b := w.heap.size) (o := 1) (x := .slice a2 an2 ac2) (by go_simp)
  replace a_2 := cy hb (b := w.heap.size) (o := 2) (x := .slice a3 an3 ac3) (by go_simp)
  replace o_0 := cy hb (b := u3.heap.size) (o := 0) (x := .slice o1 on1 oc1) (by go_simp)
  replace o_1 := cy hb (b := u3.heap.size) (o := 1) (x := .slice o2 on2 oc2) (by go_simp)
  replace o_2 := cy hb (b := u3.heap.size) (o := 2) (x := .slice o3 on3 oc3) (by go_simp)
  replace x_0 := cy hb (b := u4.heap.size) (o := 0) (x := .slice x1 xn1 xc1) (by go_simp)
  replace x_1 := cy hb (b := u4.heap.size) (o := 1) (x := .slice x2 xn2 xc2) (by go_simp)
  replace x_2 := cy hb (b := u4.heap.size) (o := 2) (x := .slice x3 xn3 xc3) (by go_simp)
  replace g_0 := cy hb (b := u5.heap.size) (o := 0) (x := .slice g1 gn1 gc1) (by go_simp)
  replace g_1 := cy hb (b := u5.heap.size) (o := 1) (x := .slice g2 gn2 gc2) (by go_simp)
  replace g_2 := cy hb (b := u5.heap.size) (o := 2) (x := .slice g3 gn3 gc3) (by go_simp)
  have M14 : Hid (DkOwn u14 v4.heap.size (.agg #[.slice g1 gn1 gc1, .slice g2 gn2 gc2, .slice g3 gn3 gc3]) (dkMk 1 m1 m2 m3)) := (M13.out.below (by go_grown)).below hb
  have K14 : Hid (Below w.heap.size w u14) := bchain (K13.out.alloc K13.out.size _) hb
  clear hb M13
  go_wp2_with fail
  refine (laws_heldDisk _ M14.out.row hm123.1 hm123.2.1 hm123.2.2).mono ?_
  rintro e u15 ⟨rfl, hb⟩
  have K15 : Hid (Below w.heap.size w u15) := bchain K14.out hb
  clear hb
  rw [HMM.out]
  go_wp2_with fail
  go_ret
  exact ⟨rfl, K15.out⟩
end Go.Proofs.Ytanjlpgdmnapdaa
