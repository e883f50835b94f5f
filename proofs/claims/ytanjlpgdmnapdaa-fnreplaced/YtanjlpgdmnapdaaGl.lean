import Derived.Test.YtanjlpgdmnapdaaDkH
namespace Go.Proofs.Ytanjlpgdmnapdaa
open Go.RowKit Go.Maps
set_option linter.unusedSimpArgs false
set_option linter.unusedVariables false

set_option maxRecDepth 100000 in
set_option maxHeartbeats 8000000 in
theorem impl_Do_no {v : Value} {d : DK} (x : DP) (w : World) (h : DkRow w v d) (hl : DkLil d) (hx : dpLil x) (hd : diskB d = false) :
    Calls Try.prog 20 #[v, .agg #[.int .i64 x.k, .string x.n, .string x.t, .string x.d]] w fun e w' => ∃ v', e = .returned (.tuple #[v', .int .i64 (sdK d x)]) ∧ DkOwn w' w.heap.size v' (sdD d x) ∧ Below w.heap.size w w' := by
  have HR : Hid (DkRow w v d) := h
  have HL : Hid (DkLil d) := hl
  have HX : Hid (dpLil x) := hx
  have HRR : Hid (diskB d = false) := hd
  obtain ⟨A1, c1, A2, c2, A3, c3, rfl, r1, r2, r3, z1, z2, z3⟩ := h
  obtain ⟨n1, HN1⟩ : ∃ n1, Hid (d.live.length = n1) := ⟨_, rfl⟩
  obtain ⟨n2, HN2⟩ : ∃ n2, Hid (d.safe.length = n2) := ⟨_, rfl⟩
  obtain ⟨n3, HN3⟩ : ∃ n3, Hid (d.ops.length = n3) := ⟨_, rfl⟩
  rw [HN1.out, HN2.out, HN3.out] at HR ⊢
  clear r1 r2 r3 z1 z2 z3 hl hx hd
  have HE : Hid (sdD d x = dk0) := by show _ = _; rw [sdD, HRR.out]; rfl
  have HK : Hid (sdK d x = 1) := by show _ = _; rw [sdK, HRR.out]; rfl
  rw [HE.out, HK.out]
  go_enter Try.func20, Try.ntmps20
  go_wp2_with fail
  refine (impl_DiskOk _ (HR.out.below (by go_grown)) HL.out).mono ?_
  rintro e w1 ⟨rfl, hb⟩
  rw [HRR.out]
  have p0 := cy hb (b := w.heap.size + 1 + 1) (o := 0) (x := .slice none 0 0) (by go_simp)
  have p1 := cy hb (b := w.heap.size + 1 + 1) (o := 1) (x := .slice none 0 0) (by go_simp)
  have p2 := cy hb (b := w.heap.size + 1 + 1) (o := 2) (x := .slice none 0 0) (by go_simp)
  have pf : ∀ o, w1.frozen? ⟨w.heap.size + 1 + 1, o, none⟩ = false := fun o => by
    rw [hb.frozen (p := ⟨w.heap.size + 1 + 1, o, none⟩) (by simp)]
    go_simp
  have HB1 : Hid (Below w.heap.size w w1) := Below.trans (by go_grown) (hb.mono (by simp; omega))
  have hz1 : w.heap.size + 1 + 1 < w1.heap.size := World.block_lt_of_cell? w1 ⟨w.heap.size + 1 + 1, 0, none⟩ p0
  clear hb
  go_wp2_with fail
  refine bodyPost_ret (v := .tuple #[.agg #[.slice none 0 0, .slice none 0 0, .slice none 0 0], .int .i64 1]) ?_ rfl ⟨_, rfl, own_dk0, ?_⟩
  · simp (maxDischargeDepth := 9) [results, Try.results20, go_sem, *]
  · exact ((HB1.out.setCell (by show w.heap.size ≤ w.heap.size + 1 + 1; omega) _).setCell (by show w.heap.size ≤ w.heap.size + 1 + 1; omega) _).setCell (by show w.heap.size ≤ w.heap.size + 1 + 1; omega) _
end Go.Proofs.Ytanjlpgdmnapdaa
namespace Go.Proofs.Ytanjlpgdmnapdaa
open Go.RowKit Go.Maps
set_option linter.unusedSimpArgs false
set_option linter.unusedVariables false

theorem cyB {B b o : Nat} {x : Value} {w w' : World} (hb : Below B w w') (hlt : b < B) (c : w.cell? ⟨b, o, none⟩ = some x) : w'.cell? ⟨b, o, none⟩ = some x := (hb.cell (p := ⟨b, o, none⟩) hlt).trans c
theorem DkOwn.allocJ {w : World} {B : Nat} {v : Value} {d : DK} (h : DkOwn w B v d) (o : Obj) : DkOwn (w.alloc o) B v d := by
  obtain ⟨v1, v2, v3, e, h1, h2, h3, h4⟩ := h
  exact ⟨v1, v2, v3, e, h1.alloc o, h2.alloc o, h3.alloc o, h4⟩
theorem DkOwn.setJ {w : World} {B : Nat} {v : Value} {d : DK} (h : DkOwn w B v d) {g : Nat} (hg : g < B) (o : Nat) (u : Value) : DkOwn (w.setCell ⟨g, o, none⟩ u) B v d := by
  obtain ⟨v1, v2, v3, e, h1, h2, h3, h4⟩ := h
  exact ⟨v1, v2, v3, e, ownSet h1 hg o u, ownSet h2 hg o u, ownSet h3 hg o u, h4⟩
theorem DkOwn.monoJ {w : World} {B B' : Nat} {v : Value} {d : DK} (h : DkOwn w B v d) (hb : B' ≤ B) : DkOwn w B' v d := by
  obtain ⟨v1, v2, v3, e, h1, h2, h3, h4⟩ := h
  exact ⟨v1, v2, v3, e, own_mono h1 hb, own_mono h2 hb, own_mono h3 hb, h4⟩
theorem below_sa {g : Nat} {w w4 : World} (h : Below w.heap.size w w4) (hg : w.heap.size ≤ g) (a b c : Value) (o : Obj) : Below w.heap.size w ((((w4.setCell ⟨g, 0, none⟩ a).setCell ⟨g, 1, none⟩ b).setCell ⟨g, 2, none⟩ c).alloc o) := by
  have h3 : Below w.heap.size w (((w4.setCell ⟨g, 0, none⟩ a).setCell ⟨g, 1, none⟩ b).setCell ⟨g, 2, none⟩ c) := ((h.setCell (by show w.heap.size ≤ g; exact hg) _).setCell (by show w.heap.size ≤ g; exact hg) _).setCell (by show w.heap.size ≤ g; exact hg) _
  exact Below.trans h3 ⟨rfl, rfl, rfl, by simp, fun q hq => Below.heap_alloc _ _ q (Nat.lt_of_lt_of_le hq h3.size)⟩
set_option maxRecDepth 100000 in
set_option maxHeartbeats 8000000 in
theorem impl_Do_err {v : Value} {d : DK} (x : DP) (w : World) (h : DkRow w v d) (hl : DkLil d) (hx : dpLil x) (hd : diskB d = true) (h0 : doK d x ≠ 0) :
    Calls Try.prog 20 #[v, .agg #[.int .i64 x.k, .string x.n, .string x.t, .string x.d]] w fun e w' => ∃ v', e = .returned (.tuple #[v', .int .i64 (sdK d x)]) ∧ DkOwn w' w.heap.size v' (sdD d x) ∧ Below w.heap.size w w' := by
  have HR : Hid (DkRow w v d) := h
  have HL : Hid (DkLil d) := hl
  have HX : Hid (dpLil x) := hx
  have HRR : Hid (diskB d = true) := hd
  obtain ⟨A1, c1, A2, c2, A3, c3, rfl, r1, r2, r3, z1, z2, z3⟩ := h
  obtain ⟨n1, HN1⟩ : ∃ n1, Hid (d.live.length = n1) := ⟨_, rfl⟩
  obtain ⟨n2, HN2⟩ : ∃ n2, Hid (d.safe.length = n2) := ⟨_, rfl⟩
  obtain ⟨n3, HN3⟩ : ∃ n3, Hid (d.ops.length = n3) := ⟨_, rfl⟩
  rw [HN1.out, HN2.out, HN3.out] at HR ⊢
  have HR1 : Hid (FiRow w A1 d.live) := r1
  clear r1 r2 r3 z1 z2 z3 hl hx hd
  have HE : Hid (sdD d x = d) := by show _ = _; rw [sdD, HRR.out, acD_no h0]; rfl
  have HK : Hid (sdK d x = doK d x) := by show _ = _; rw [sdK, HRR.out]; rfl
  have H0 : Hid (doK d x ≠ 0) := h0
  rw [HE.out, HK.out]
  obtain ⟨q1, q2, q3⟩ := disk_parts HRR.out
  obtain ⟨l60, lup, lnm, ltt⟩ := files_parts q1
  have HFL : Hid (filesB d.live = true) := q1
  have HUP : Hid (Up fiK d.live) := lup
  have HNM : Hid (∀ y ∈ d.live, nameB y.n = true) := lnm
  have HTL : Hid (totL d.live ≤ 200000) := ltt
  have HFK : Hid (∀ y ∈ d.live, fiOk y) := fun y hy => fiOk_of (HL.out.l1 y hy)
  rw [HN1.out] at l60
  rw [HN3.out] at q3
  clear q1 q2 lup lnm ltt h0
  go_enter Try.func20, Try.ntmps20
  go_wp2_with fail
  refine (impl_DiskOk _ (HR.out.below (by go_grown)) HL.out).mono ?_
  rintro e w1 ⟨rfl, hb⟩
  rw [HRR.out]
  have p0 := cy hb (b := w.heap.size + 1 + 1) (o := 0) (x := .slice none 0 0) (by go_simp)
  have hz1 : w.heap.size + 1 + 1 < w1.heap.size := World.block_lt_of_cell? w1 ⟨w.heap.size + 1 + 1, 0, none⟩ p0
  have k0 := cy hb (b := w.heap.size) (o := 0) (x := .slice A1 n1 c1) (by go_simp)
  have k1 := cy hb (b := w.heap.size) (o := 1) (x := .slice A2 n2 c2) (by go_simp)
  have k2 := cy hb (b := w.heap.size) (o := 2) (x := .slice A3 n3 c3) (by go_simp)
  have x0 := cy hb (b := w.heap.size + 1) (o := 0) (x := .int .i64 x.k) (by go_simp)
  have x1 := cy hb (b := w.heap.size + 1) (o := 1) (x := .string x.n) (by go_simp)
  have x2 := cy hb (b := w.heap.size + 1) (o := 2) (x := .string x.t) (by go_simp)
  have x3 := cy hb (b := w.heap.size + 1) (o := 3) (x := .string x.d) (by go_simp)
  have p1 := cy hb (b := w.heap.size + 1 + 1) (o := 1) (x := .slice none 0 0) (by go_simp)
  have p2 := cy hb (b := w.heap.size + 1 + 1) (o := 2) (x := .slice none 0 0) (by go_simp)
  have pf : ∀ o, w1.frozen? ⟨w.heap.size + 1 + 1, o, none⟩ = false := fun o => by
    rw [hb.frozen (p := ⟨w.heap.size + 1 + 1, o, none⟩) (by simp)]
    go_simp
  have HB1 : Hid (Below w.heap.size w w1) := Below.trans (by go_grown) (hb.mono (by simp; omega))
  clear hb
  have hl0 : w.heap.size < w1.heap.size := by omega
  have hl1 : w.heap.size + 1 < w1.heap.size := by omega
  go_wp2_with fail
  refine (impl_folderOf _ (HR1.out.below HB1.out) HN1.out HUP.out (by omega) HFK.out (Nat.le_trans HTL.out (by omega))).mono ?_
  rintro e w2 ⟨rfl, hF, hb⟩
  have HF : Hid (FoldL w2 w1.heap.size w1.heap.size n1 d.live) := hF
  have s2 := hb.size
  replace k0 := cyB hb (by omega) k0
  replace k1 := cyB hb (by omega) k1
  replace k2 := cyB hb (by omega) k2
  replace x0 := cyB hb (by omega) x0
  replace x1 := cyB hb (by omega) x1
  replace x2 := cyB hb (by omega) x2
  replace x3 := cyB hb (by omega) x3
  replace p0 := cyB hb (by omega) p0
  replace p1 := cyB hb (by omega) p1
  replace p2 := cyB hb (by omega) p2
  replace pf : ∀ o, w2.frozen? ⟨w.heap.size + 1 + 1, o, none⟩ = false := fun o => by
    rw [hb.frozen (p := ⟨w.heap.size + 1 + 1, o, none⟩) (by show w.heap.size + 1 + 1 < _; omega)]
    exact pf o
  have HB2 : Hid (Below w.heap.size w w2) := bchain HB1.out hb
  have hm0 : w.heap.size < w2.heap.size := by omega
  have hm1 : w.heap.size + 1 < w2.heap.size := by omega
  have hm2 : w.heap.size + 1 + 1 < w2.heap.size := by omega
  clear hF hb hl0 hl1
  go_wp2_with fail
  refine (impl_do x _ HF.out (by omega) HX.out (by omega) (Nat.le_trans HTL.out (by omega))).mono ?_
  rintro e w3 ⟨rfl, hF, hb⟩
  have s3 := hb.size
  replace k0 := cyB hb (by omega) k0
  replace k1 := cyB hb (by omega) k1
  replace k2 := cyB hb (by omega) k2
  replace x0 := cyB hb (by omega) x0
  replace x1 := cyB hb (by omega) x1
  replace x2 := cyB hb (by omega) x2
  replace x3 := cyB hb (by omega) x3
  replace p0 := cyB hb (by omega) p0
  replace p1 := cyB hb (by omega) p1
  replace p2 := cyB hb (by omega) p2
  replace pf : ∀ o, w3.frozen? ⟨w.heap.size + 1 + 1, o, none⟩ = false := fun o => by
    rw [hb.frozen (p := ⟨w.heap.size + 1 + 1, o, none⟩) (by show w.heap.size + 1 + 1 < _; omega)]
    exact pf o
  have HB3 : Hid (Below w.heap.size w w3) := Below.trans HB2.out (hb.mono (by omega))
  have hk0 : w.heap.size < w3.heap.size := by omega
  have hk1 : w.heap.size + 1 < w3.heap.size := by omega
  have hk2 : w.heap.size + 1 + 1 < w3.heap.size := by omega
  clear hF hb hm0 hm1 hm2
  obtain ⟨cc, HC⟩ : ∃ cc, Hid (doC x d.live = cc) := ⟨_, rfl⟩
  rw [HC.out]
  by_cases e0 : cc = 0
  · subst e0
    have h200 : 200 ≤ n3 := Nat.le_of_not_lt fun h9 => H0.out (by rw [doK, HC.out, HN3.out, if_neg (by omega)])
    have HQ : Hid (doK d x = 4) := by show _ = _; rw [doK, HC.out, HN3.out, if_pos ⟨rfl, h200⟩]
    have h201 : (200 : Int) ≤ (n3 : Int) := by omega
    go_wp2_with fail
    refine (impl_copied _ (HR.out.below HB3.out) HL.out).mono ?_
    rintro e w4 ⟨vv, rfl, ⟨v1, v2, v3, rfl, o1, o2, o3, oa⟩, hb⟩
    replace p0 := cyB hb (by omega) p0
    replace p1 := cyB hb (by omega) p1
    replace p2 := cyB hb (by omega) p2
    replace pf : ∀ o, w4.frozen? ⟨w.heap.size + 1 + 1, o, none⟩ = false := fun o => by
      rw [hb.frozen (p := ⟨w.heap.size + 1 + 1, o, none⟩) (by show w.heap.size + 1 + 1 < _; omega)]
      exact pf o
    have s4 := hb.size
    have m4 : w.heap.size + 1 + 1 < w4.heap.size := by omega
    have BB : Hid (Below w.heap.size w w4) := bchain HB3.out hb
    have HH : Hid (DkOwn w4 w3.heap.size (.agg #[v1, v2, v3]) d) := ⟨_, _, _, rfl, o1, o2, o3, oa⟩
    obtain ⟨D1, b1, rfl, y1, y2⟩ := own_shape o1
    obtain ⟨D2, b2, rfl, y3, y4⟩ := own_shape o2
    obtain ⟨D3, b3, rfl, y5, y6⟩ := own_shape o3
    clear hb o1 o2 o3 oa y1 y2 y3 y4 y5 y6 k0 k1 k2 x0 x1 x2 x3
    go_wp2_with fail
    refine bodyPost_ret (v := .tuple #[.agg #[.slice D1 d.live.length b1, .slice D2 d.safe.length b2, .slice D3 d.ops.length b3], .int .i64 4]) ?_ rfl ⟨_, by rw [HQ.out], ?_, ?_⟩
    · simp (maxDischargeDepth := 9) [results, Try.results20, go_sem, *]
    · exact ((((HH.out.setJ (by omega) _ _).setJ (by omega) _ _).setJ (by omega) _ _).allocJ _).monoJ (by omega)
    · exact below_sa BB.out (by omega) _ _ _ _
  · have e1 : (cc == 0) = false := by simpa using e0
    have HQ : Hid (doK d x = cc) := by show _ = _; rw [doK, HC.out, if_neg (by omega)]
    go_wp2_with fail
    refine (impl_copied _ (HR.out.below HB3.out) HL.out).mono ?_
    rintro e w4 ⟨vv, rfl, ⟨v1, v2, v3, rfl, o1, o2, o3, oa⟩, hb⟩
    replace p0 := cyB hb (by omega) p0
    replace p1 := cyB hb (by omega) p1
    replace p2 := cyB hb (by omega) p2
    replace pf : ∀ o, w4.frozen? ⟨w.heap.size + 1 + 1, o, none⟩ = false := fun o => by
      rw [hb.frozen (p := ⟨w.heap.size + 1 + 1, o, none⟩) (by show w.heap.size + 1 + 1 < _; omega)]
      exact pf o
    have s4 := hb.size
    have m4 : w.heap.size + 1 + 1 < w4.heap.size := by omega
    have BB : Hid (Below w.heap.size w w4) := bchain HB3.out hb
    have HH : Hid (DkOwn w4 w3.heap.size (.agg #[v1, v2, v3]) d) := ⟨_, _, _, rfl, o1, o2, o3, oa⟩
    obtain ⟨D1, b1, rfl, y1, y2⟩ := own_shape o1
    obtain ⟨D2, b2, rfl, y3, y4⟩ := own_shape o2
    obtain ⟨D3, b3, rfl, y5, y6⟩ := own_shape o3
    clear hb o1 o2 o3 oa y1 y2 y3 y4 y5 y6 k0 k1 k2 x0 x1 x2 x3
    go_wp2_with fail
    refine bodyPost_ret (v := .tuple #[.agg #[.slice D1 d.live.length b1, .slice D2 d.safe.length b2, .slice D3 d.ops.length b3], .int .i64 cc]) ?_ rfl ⟨_, by rw [HQ.out], ?_, ?_⟩
    · simp (maxDischargeDepth := 9) [results, Try.results20, go_sem, *]
    · exact ((((HH.out.setJ (by omega) _ _).setJ (by omega) _ _).setJ (by omega) _ _).allocJ _).monoJ (by omega)
    · exact below_sa BB.out (by omega) _ _ _ _
end Go.Proofs.Ytanjlpgdmnapdaa
