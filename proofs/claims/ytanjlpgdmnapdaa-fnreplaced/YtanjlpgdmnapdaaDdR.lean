import Derived.Test.YtanjlpgdmnapdaaDdD
namespace Go.Proofs.Ytanjlpgdmnapdaa
open Go.RowKit Go.Maps
set_option linter.unusedSimpArgs false
set_option linter.unusedVariables false

def tabR (n : Nat) : ByteArray := match n with
  | 0 => ⟨#[98, 97, 115, 101]⟩
  | 1 => ⟨#[108, 111, 103]⟩
  | 2 => ⟨#[98, 97, 115, 101]⟩
  | _ => ⟨#[]⟩
theorem tabR_size (n : Nat) : (tabR n).size ≤ 8 := by unfold tabR; split <;> decide
def FarR (r g b : Nat) : Prop := r < b ∧ b ≠ g
/-- While a disk and a name are drawn. -/
structure DrI (w : World) (r : Nat) (A : Option Addr) (len cap g : Nat) (d : DK) (u : World) : Prop where
  hr : r = w.heap.size + 1
  gl : r < g
  glt : g < u.heap.size
  rd : Rd u r A len cap
  inw : 0 < len → ∀ x, A = some x → x.block < w.heap.size
  bel : Below w.heap.size w u
  ex : ∃ a1 a2 a3 l1 l2 l3 c1 c2 c3, u.cell? ⟨g, 0, none⟩ = some (.slice a1 l1 c1) ∧ u.cell? ⟨g, 1, none⟩ = some (.slice a2 l2 c2) ∧ u.cell? ⟨g, 2, none⟩ = some (.slice a3 l3 c3) ∧ DkRowP (FarR r g) u (.agg #[.slice a1 l1 c1, .slice a2 l2 c2, .slice a3 l3 c3]) d
  nf : ∀ o, u.frozen? ⟨w.heap.size, o, none⟩ = false
  z0 : u.cell? ⟨w.heap.size, 0, none⟩ = some (.slice none 0 0)
  z1 : u.cell? ⟨w.heap.size, 1, none⟩ = some (.slice none 0 0)
  z2 : u.cell? ⟨w.heap.size, 2, none⟩ = some (.slice none 0 0)
  lil : DkLil d
theorem DrI.keep {w u u' : World} {r g : Nat} {A : Option Addr} {len cap : Nat} {d : DK} (h : DrI w r A len cap g d u) (hc : ∀ b o, b < u.heap.size → b ≠ r → u'.cell? ⟨b, o, none⟩ = u.cell? ⟨b, o, none⟩) (hf : ∀ b o, b < u.heap.size → b ≠ r → u'.frozen? ⟨b, o, none⟩ = u.frozen? ⟨b, o, none⟩)
    (hs : u.heap.size ≤ u'.heap.size) (hrd : Rd u' r A len cap) (hb : Below w.heap.size w u') : DrI w r A len cap g d u' := by
  obtain ⟨hr, gl, glt, rd, inw, bel, ⟨a1, a2, a3, l1, l2, l3, c1, c2, c3, e1, e2, e3, hrow⟩, nf, z0, z1, z2, lil⟩ := h
  have k5 : ∀ o, u'.cell? ⟨g, o, none⟩ = u.cell? ⟨g, o, none⟩ := fun o => hc _ _ (by omega) (by omega)
  have k0 : ∀ o, u'.cell? ⟨w.heap.size, o, none⟩ = u.cell? ⟨w.heap.size, o, none⟩ := fun o => hc _ _ (by omega) (by omega)
  exact ⟨hr, gl, by omega, hrd, inw, hb, ⟨a1, a2, a3, l1, l2, l3, c1, c2, c3, (k5 0).trans e1, (k5 1).trans e2, (k5 2).trans e3, hrow.keep hs (fun b o hP hl => hc b o hl (by have := hP.1; omega))⟩,
    fun o => (hf _ o (by omega) (by omega)).trans (nf o), (k0 0).trans z0, (k0 1).trans z1, (k0 2).trans z2, lil⟩
theorem DrI.upd {w u u' : World} {r g : Nat} {A : Option Addr} {len cap : Nat} {d : DK} (h : DrI w r A len cap g d u) (hu : Upd r u u') (hrd : Rd u' r A len cap) : DrI w r A len cap g d u' :=
  h.keep hu.1 hu.2.1 hu.2.2.1 hrd (h.bel.trans (hu.2.2.2.mono (by have := h.hr; omega)))
theorem DrI.below {w u u' : World} {r g : Nat} {A : Option Addr} {len cap : Nat} {d : DK} (h : DrI w r A len cap g d u) (hb : Below u.heap.size u u') : DrI w r A len cap g d u' :=
  h.keep (fun b o hl _ => hb.cell (p := ⟨b, o, none⟩) hl) (fun b o hl _ => hb.frozen (p := ⟨b, o, none⟩) hl) hb.size (h.rd.below hb) (bchain h.bel hb)
set_option maxRecDepth 100000 in
set_option maxHeartbeats 8000000 in
theorem draw_replace (A : Option Addr) (len cap : Nat) (w : World) (h : Cd w A len) : Calls Try.prog 23 #[.slice A len cap] w fun e w' =>
    ∃ v d s x, e = .returned (.tuple #[v, .string s, .string x]) ∧ DkRow w' v d ∧ DkLil d ∧ s.size ≤ 1000 ∧ x.size ≤ 1000 ∧ Below w.heap.size w w' := by
  have HC : Hid (Cd w A len) := h
  clear h
  go_enter Try.func23, Try.ntmps23
  go_wp2_with fail
  refine (spec_l1Open A len cap _).mono ?_
  rintro e w1 ⟨rfl, hw⟩
  obtain ⟨w2, HW2⟩ : ∃ w2, Hid (w.alloc (.cells #[.slice none 0 0, .slice none 0 0, .slice none 0 0] 27) = w2) := ⟨_, rfl⟩
  rw [HW2.out] at hw ⊢
  have hb2 : Below w.heap.size w w2 := by rw [← HW2.out]; go_grown
  have s2 : w2.heap.size = w.heap.size + 1 := by rw [← HW2.out]; simp
  have HRD : Hid (Rd w1 w2.heap.size A len cap) := by rw [← hw]; exact HC.out.open hb2 rfl
  have hb1 : Below w2.heap.size w2 w1 := by rw [← hw]; exact (Below.refl _ _).alloc (Nat.le_refl _) _
  have s1 : w1.heap.size = w2.heap.size + 1 := by rw [← hw]; simp
  have HZ : Hid (w1.cell? ⟨w.heap.size, 0, none⟩ = some (.slice none 0 0) ∧ w1.cell? ⟨w.heap.size, 1, none⟩ = some (.slice none 0 0) ∧ w1.cell? ⟨w.heap.size, 2, none⟩ = some (.slice none 0 0)) :=
    ⟨cy hb1 (by rw [← HW2.out]; go_simp), cy hb1 (by rw [← HW2.out]; go_simp), cy hb1 (by rw [← HW2.out]; go_simp)⟩
  have HF : Hid (∀ o, w1.frozen? ⟨w.heap.size, o, none⟩ = false) := by
    intro o
    rw [hb1.frozen (p := ⟨w.heap.size, o, none⟩) (by show w.heap.size < _; omega), ← HW2.out]
    go_simp
  have HBW : Hid (Below w.heap.size w w1) := bchain hb2 hb1
  have HS1 : Hid (w1.heap.size = w.heap.size + 2) := by show _ = _; omega
  obtain ⟨r, HR0⟩ : ∃ r, Hid (w2.heap.size = r) := ⟨_, rfl⟩
  have HR1 : Hid (r = w.heap.size + 1) := by rw [← HR0.out]; exact s2
  rw [HR0.out] at HRD ⊢
  clear hw hb1 hb2 s1 s2 HW2 HR0
  go_wp2_with fail
  refine (rd_diskL _ A len cap _ HRD.out).mono ?_
  rintro e u1 ⟨v, d, rfl, hrow, hl, hr, hu⟩
  obtain ⟨a1, a2, a3, ac1, ac2, ac3, an1, an2, an3, rfl⟩ := hrow.row.agg
  obtain ⟨X1, HX1⟩ : ∃ X1, Hid (u1.alloc (.cells #[.slice a1 an1 ac1, .slice a2 an2 ac2, .slice a3 an3 ac3] 27) = X1) := ⟨_, rfl⟩
  have HI1 : Hid (DrI w r A len cap u1.heap.size d X1) := by
    have hr1 := HR1.out
    have hs1 := HS1.out
    have hz1 := hu.1.2.2.1
    have hbX : Below u1.heap.size u1 X1 := by rw [← HX1.out]; go_grown
    have sX : X1.heap.size = u1.heap.size + 1 := by rw [← HX1.out]; simp
    obtain ⟨z0, z1, z2⟩ := HZ.out
    have kk : ∀ b o, b < w1.heap.size → b ≠ r → X1.cell? ⟨b, o, none⟩ = w1.cell? ⟨b, o, none⟩ := fun b o hb hn => (hbX.cell (p := ⟨b, o, none⟩) (by show b < _; omega)).trans (hu.1.1 b o hb hn)
    have hP : DkRowP (FarR r u1.heap.size) u1 (.agg #[.slice a1 an1 ac1, .slice a2 an2 ac2, .slice a3 an3 ac3]) d := hrow.toP.imp fun b hb hq => ⟨by omega, by omega⟩
    refine ⟨hr1, by omega, by omega, hr.below hbX, HC.out.at, ?_, ⟨a1, a2, a3, an1, an2, an3, ac1, ac2, ac3, by rw [← HX1.out]; go_simp, by rw [← HX1.out]; go_simp, by rw [← HX1.out]; go_simp, hP.below hbX⟩, fun o => ?_, (kk _ _ (by omega) (by omega)).trans z0, (kk _ _ (by omega) (by omega)).trans z1, (kk _ _ (by omega) (by omega)).trans z2, hl⟩
    · exact (HBW.out.trans (hu.1.2.2.2.mono (by omega))).trans (hbX.mono (by omega))
    · exact (hbX.frozen (p := ⟨_, o, none⟩) (by show w.heap.size < _; omega)).trans ((hu.1.2.1 _ o (by omega) (by omega)).trans (HF.out o))
  obtain ⟨g, HG⟩ : ∃ g, Hid (u1.heap.size = g) := ⟨_, rfl⟩
  have sX : X1.heap.size = g + 1 := by rw [← HX1.out, ← HG.out]; simp
  rw [HG.out] at HI1
  have hrX : r < X1.heap.size := HI1.out.rd.lt
  clear hrow hl hr hu HZ HF HRD HBW HS1
  go_wp2_with fail
  rw [HX1.out]
  try rw [HG.out]
  refine (rd_below r A len cap 4 _ (HI1.out.rd.below (by go_grown)) (by omega) (by omega)).mono ?_
  rintro e u2 ⟨v1, rfl, v0, v1', hr, hu⟩
  obtain ⟨n1, rfl⟩ : ∃ n : Nat, v1 = (n : Int) := ⟨v1.toNat, by omega⟩
  have hn1 : n1 < 4 := by omega
  have c1 : u2.cell? ⟨g + 1, n1, none⟩ = some (.string (tabR n1)) := by
    rw [← sX, hu.1 _ _ (by simp) (by show X1.heap.size ≠ r; omega)]
    have hq : n1 = 0 ∨ n1 = 1 ∨ n1 = 2 ∨ n1 = 3 := by omega
    rcases hq with rfl | rfl | rfl | rfl <;> simp [tabR]
  have HI2 : Hid (DrI w r A len cap g d u2) := (HI1.out.below (by go_grown)).upd hu hr
  have hn4 : (n1 : Int) < 4 := by omega
  have hn0 : (0 : Int) ≤ (n1 : Int) := by omega
  have hl1 : g + 1 < u2.heap.size := World.block_lt_of_cell? u2 ⟨g + 1, n1, none⟩ c1
  obtain ⟨nm, HNM⟩ : ∃ nm, Hid (tabR n1 = nm) := ⟨_, rfl⟩
  rw [HNM.out] at c1
  have hnm : nm.size ≤ 8 := by rw [← HNM.out]; exact tabR_size _
  clear hr hu v0 v1' HI1 sX
  go_wp2_with fail
  refine (rd_once r A len cap 12 _ HI2.out.rd (by omega) (by omega)).mono ?_
  rintro e u3 ⟨b, rfl, hr, hu⟩
  have HI3 : Hid (DrI w r A len cap g d u3) := HI2.out.upd hu hr
  clear hr hu c1 hn4 hn0 hl1 HI2 HNM hn1 hrX HX1 HG
  cases b
  · skip
    have l1 := HI3.out.glt
    have l2 := HI3.out.gl
    have l3 := HR1.out
    obtain ⟨b1, b2, b3, m1, m2, m3, q1, q2, q3, f0, f1, f2, frow⟩ := HI3.out.ex
    have FR : Hid (DkRowP (FarR r g) u3 (.agg #[.slice b1 m1 q1, .slice b2 m2 q2, .slice b3 m3 q3]) d) := frow
    have z0 := HI3.out.z0
    have z1 := HI3.out.z1
    have z2 := HI3.out.z2
    have nf := HI3.out.nf
    have ne1 : ¬ g = w.heap.size := by omega
    have ne2 : ¬ g = r := by omega
    have ne3 : ¬ w.heap.size = r := by omega
    have lt0 : w.heap.size < u3.heap.size := by omega
    have lr : r < u3.heap.size := by omega
    have lwr : w.heap.size < r := by omega
    clear frow l3
    go_upto_region 6 with fail
    go_region_with (first
      | (go_at_call 61; refine (rd_textD r A len cap _ (HI3.out.rd.below (by go_grown))).mono ?_; rintro e y ⟨tx, rfl, htx, hr, hu⟩; have JY : Hid (DrI w r A len cap g d y) := (HI3.out.below (by go_grown)).upd hu.1 hr; have FY : Hid (DkRowP (FarR r g) y (.agg #[.slice b1 m1 q1, .slice b2 m2 q2, .slice b3 m3 q3]) d) := (FR.out.below (by go_grown)).keep hu.1.2.2.1 (fun b o hP hl => hu.1.1 b o hl (by have := hP.1; omega)); have y0 := JY.out.z0; have y1 := JY.out.z1; have y2 := JY.out.z2; have ynf := JY.out.nf; have yl := JY.out.glt; have h0 := (hu.1.1 g 0 (by exact l1) (by omega)).trans f0; have h1 := (hu.1.1 g 1 (by exact l1) (by omega)).trans f1; have h2 := (hu.1.1 g 2 (by exact l1) (by omega)).trans f2; have ylw : w.heap.size < y.heap.size := (by omega); clear hr hu))
    all_goals
      go_wp2_with fail
      refine bodyPost_ret (v := .tuple #[.agg #[.slice b1 m1 q1, .slice b2 m2 q2, .slice b3 m3 q3], .string nm, .string tx]) ?_ rfl ⟨_, d, nm, tx, rfl, ?_, JY.out.lil, (by omega), (by omega), ?_⟩
      · simp (maxDischargeDepth := 9) [results, Try.results23, go_sem, *]
      · have h9 : ¬ FarR r g w.heap.size := fun hP => by have := hP.1; omega
        exact (((FY.out.set h9).set h9).set h9).row
      · have g0 : w.heap.size ≤ w.heap.size := Nat.le_refl _
        exact ((JY.out.bel.setCell (by exact g0) _).setCell (by exact g0) _).setCell (by exact g0) _
  · go_wp2_with fail
    refine (rd_below r A len cap 4 _ HI3.out.rd (by omega) (by omega)).mono ?_
    rintro e u4 ⟨bv, rfl, bv0, bv9, hr, hu⟩
    have HI4 : Hid (DrI w r A len cap g d u4) := HI3.out.upd hu hr
    obtain ⟨nn, hnn⟩ : ∃ nn : Nat, 95 + bv = (nn : Int) := ⟨(95 + bv).toNat, by omega⟩
    have hnb : nn ≤ 99 := by omega
    clear hr hu HI3
    obtain ⟨i0, hi, iz0, iz1, iz2⟩ := info_parts infoU8D
    go_wp2_with (first
      | (at_make; (refine wpList_make_full _ rfl _ _ 22 rfl u4.heap.size 5 i0 (.int .u8 0) 1 Try.underlying22 hi iz0 iz1 _ _ _ _ nn rfl rfl ?ma ?mb ?mc ?md (Nat.le_refl _) ?_))
      | go_in)
    case ma => omega
    case mb => omega
    case mc => rw [iz2]; omega
    case md => unfold maxLen; omega
    intro w6 hown hg
    obtain ⟨sb, hsb, hcv⟩ := conv_rowD hown ⟨List.replicate nn 0, by rw [toList_madeCells_one, List.map_replicate]⟩
    have hb : Below u4.heap.size u4 w6 := ⟨hg.os, hg.tape, hg.output, hg.size, fun q hq => hg.block q hq (by intro e; cases e)⟩
    have HI6 : Hid (DrI w r A len cap g d w6) := HI4.out.below hb
    have HSB : Hid (sb.size = nn) := hsb
    have hsb9 : sb.size ≤ 99 := by rw [hsb]; exact hnb
    clear hown hg hb hi iz0 iz1 iz2 hnn hsb hnb bv0 bv9 HI4
    have l1 := HI6.out.glt
    have l2 := HI6.out.gl
    have l3 := HR1.out
    obtain ⟨b1, b2, b3, m1, m2, m3, q1, q2, q3, f0, f1, f2, frow⟩ := HI6.out.ex
    have FR : Hid (DkRowP (FarR r g) w6 (.agg #[.slice b1 m1 q1, .slice b2 m2 q2, .slice b3 m3 q3]) d) := frow
    have z0 := HI6.out.z0
    have z1 := HI6.out.z1
    have z2 := HI6.out.z2
    have nf := HI6.out.nf
    have ne1 : ¬ g = w.heap.size := by omega
    have ne2 : ¬ g = r := by omega
    have ne3 : ¬ w.heap.size = r := by omega
    have lt0 : w.heap.size < w6.heap.size := by omega
    have lr : r < w6.heap.size := by omega
    have lwr : w.heap.size < r := by omega
    clear frow l3
    go_upto_region 6 with fail
    go_region_with (first
      | (go_at_call 61; refine (rd_textD r A len cap _ (HI6.out.rd.below (by go_grown))).mono ?_; rintro e y ⟨tx, rfl, htx, hr, hu⟩; have JY : Hid (DrI w r A len cap g d y) := (HI6.out.below (by go_grown)).upd hu.1 hr; have FY : Hid (DkRowP (FarR r g) y (.agg #[.slice b1 m1 q1, .slice b2 m2 q2, .slice b3 m3 q3]) d) := (FR.out.below (by go_grown)).keep hu.1.2.2.1 (fun b o hP hl => hu.1.1 b o hl (by have := hP.1; omega)); have y0 := JY.out.z0; have y1 := JY.out.z1; have y2 := JY.out.z2; have ynf := JY.out.nf; have yl := JY.out.glt; have h0 := (hu.1.1 g 0 (by exact l1) (by omega)).trans f0; have h1 := (hu.1.1 g 1 (by exact l1) (by omega)).trans f1; have h2 := (hu.1.1 g 2 (by exact l1) (by omega)).trans f2; have ylw : w.heap.size < y.heap.size := (by omega); clear hr hu))
    all_goals
      go_wp2_with fail
      refine bodyPost_ret (v := .tuple #[.agg #[.slice b1 m1 q1, .slice b2 m2 q2, .slice b3 m3 q3], .string sb, .string tx]) ?_ rfl ⟨_, d, sb, tx, rfl, ?_, JY.out.lil, (by omega), (by omega), ?_⟩
      · simp (maxDischargeDepth := 9) [results, Try.results23, go_sem, *]
      · have h9 : ¬ FarR r g w.heap.size := fun hP => by have := hP.1; omega
        exact (((FY.out.set h9).set h9).set h9).row
      · have g0 : w.heap.size ≤ w.heap.size := Nat.le_refl _
        exact ((JY.out.bel.setCell (by exact g0) _).setCell (by exact g0) _).setCell (by exact g0) _
end Go.Proofs.Ytanjlpgdmnapdaa
