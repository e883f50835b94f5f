import Derived.Test.YtanjlpgdmnapdaaDdP
import Derived.Test.YtanjlpgdmnapdaaFcA
namespace Go.Proofs.Ytanjlpgdmnapdaa
open Go.RowKit Go.Maps
set_option linter.unusedSimpArgs false
set_option linter.unusedVariables false

/-- The op that fills a disk. -/
def bOp : DP := ⟨1, ⟨#[98]⟩, ⟨#[]⟩, ⟨#[]⟩⟩
theorem bOp_lil : dpLil bOp := ⟨by decide, by decide, by decide⟩
theorem sU {r : Nat} {u1 u : World} (h : Upd r u1 u) : (∀ bq oq, bq < u1.heap.size → ¬ bq = r → u.cell? ⟨bq, oq, none⟩ = u1.cell? ⟨bq, oq, none⟩) ∧ u1.heap.size ≤ u.heap.size := ⟨fun b o hb hn => h.1 b o hb hn, h.2.2.1⟩
set_option maxRecDepth 100000 in
set_option maxHeartbeats 8000000 in
theorem draw_do (A : Option Addr) (len cap : Nat) (w : World) (h : Cd w A len) : Calls Try.prog 19 #[.slice A len cap] w fun e w' =>
    ∃ v d x, e = .returned (.tuple #[v, .agg #[.int .i64 x.k, .string x.n, .string x.t, .string x.d]]) ∧ DkRow w' v d ∧ DkLil d ∧ dpLil x ∧ Below w.heap.size w w' := by
  have HC : Hid (Cd w A len) := h
  clear h
  go_enter Try.func19, Try.ntmps19
  go_wp2_with fail
  refine (spec_l1Open A len cap _).mono ?_
  rintro e w1 ⟨rfl, hw⟩
  obtain ⟨w2, HW2⟩ : ∃ w2, Hid ((w.alloc (.cells #[.slice none 0 0, .slice none 0 0, .slice none 0 0] 27)).alloc (.cells #[.int .i64 0, .string ⟨#[]⟩, .string ⟨#[]⟩, .string ⟨#[]⟩] 36) = w2) := ⟨_, rfl⟩
  rw [HW2.out] at hw ⊢
  have hb2 : Below w.heap.size w w2 := by rw [← HW2.out]; go_grown
  have s2 : w2.heap.size = w.heap.size + 2 := by rw [← HW2.out]; simp
  have HRD : Hid (Rd w1 w2.heap.size A len cap) := by rw [← hw]; exact HC.out.open hb2 rfl
  have hb1 : Below w2.heap.size w2 w1 := by rw [← hw]; exact (Below.refl _ _).alloc (Nat.le_refl _) _
  have s1 : w1.heap.size = w2.heap.size + 1 := by rw [← hw]; simp
  have HZ : Hid (w1.cell? ⟨w.heap.size, 0, none⟩ = some (.slice none 0 0) ∧ w1.cell? ⟨w.heap.size, 1, none⟩ = some (.slice none 0 0) ∧ w1.cell? ⟨w.heap.size, 2, none⟩ = some (.slice none 0 0) ∧
      w1.cell? ⟨w.heap.size + 1, 0, none⟩ = some (.int .i64 0) ∧ w1.cell? ⟨w.heap.size + 1, 1, none⟩ = some (.string ⟨#[]⟩) ∧ w1.cell? ⟨w.heap.size + 1, 2, none⟩ = some (.string ⟨#[]⟩) ∧ w1.cell? ⟨w.heap.size + 1, 3, none⟩ = some (.string ⟨#[]⟩)) :=
    ⟨cy hb1 (by rw [← HW2.out]; go_simp), cy hb1 (by rw [← HW2.out]; go_simp), cy hb1 (by rw [← HW2.out]; go_simp), cy hb1 (by rw [← HW2.out]; go_simp), cy hb1 (by rw [← HW2.out]; go_simp), cy hb1 (by rw [← HW2.out]; go_simp), cy hb1 (by rw [← HW2.out]; go_simp)⟩
  have HF : Hid (∀ b o, b = w.heap.size ∨ b = w.heap.size + 1 → w1.frozen? ⟨b, o, none⟩ = false) := by
    intro b o hb
    rw [hb1.frozen (p := ⟨b, o, none⟩) (by show b < _; omega), ← HW2.out]
    rcases hb with rfl | rfl <;> go_simp
  have HBW : Hid (Below w.heap.size w w1) := bchain hb2 hb1
  have HS1 : Hid (w1.heap.size = w.heap.size + 3) := by show _ = _; omega
  obtain ⟨r, HR0⟩ : ∃ r, Hid (w2.heap.size = r) := ⟨_, rfl⟩
  have HR1 : Hid (r = w.heap.size + 2) := by rw [← HR0.out]; exact s2
  rw [HR0.out] at HRD ⊢
  clear hw hb1 hb2 s1 s2 HW2 HR0
  go_wp2_with fail
  refine (rd_diskL _ A len cap _ HRD.out).mono ?_
  rintro e u1 ⟨v, d, rfl, hrow, hl, hr, hu⟩
  have hr1 := HR1.out
  have hs1 := HS1.out
  have HP1 : Hid (DkRowP (fun b => w1.heap.size + 2 ≤ b) u1 v d) := hrow.toP
  have HLL : Hid (DkLil d) := hl
  have HRu : Hid (Rd u1 r A len cap) := hr
  have HUu : Hid (Upd r w1 u1) := hu.1
  have hz1 : w1.heap.size ≤ u1.heap.size := hu.1.2.2.1
  obtain ⟨a1, a2, a3, ac1, ac2, ac3, an1, an2, an3, rfl⟩ := hrow.row.agg
  clear hrow hl hr hu hr1 hs1 hz1
  go_wp2_with fail
  refine (rd_dopD _ A len cap _ (HRu.out.below (by go_grown))).mono ?_
  rintro e u2 ⟨x, rfl, hx, hr, hu⟩
  obtain ⟨X1, HX1⟩ : ∃ X1, Hid (u1.alloc (.cells #[.slice a1 an1 ac1, .slice a2 an2 ac2, .slice a3 an3 ac3] 27) = X1) := ⟨_, rfl⟩
  rw [HX1.out] at hu
  have hbX : Below u1.heap.size u1 X1 := by rw [← HX1.out]; go_grown
  have sX : X1.heap.size = u1.heap.size + 1 := by rw [← HX1.out]; simp
  have e0 : X1.cell? ⟨u1.heap.size, 0, none⟩ = some (.slice a1 an1 ac1) := by rw [← HX1.out]; go_simp
  have e1 : X1.cell? ⟨u1.heap.size, 1, none⟩ = some (.slice a2 an2 ac2) := by rw [← HX1.out]; go_simp
  have e2 : X1.cell? ⟨u1.heap.size, 2, none⟩ = some (.slice a3 an3 ac3) := by rw [← HX1.out]; go_simp
  have ef : ∀ o, X1.frozen? ⟨u1.heap.size, o, none⟩ = false := fun o => by rw [← HX1.out]; go_simp
  have HI2 : Hid (DoI w r A len cap u1.heap.size u2.heap.size d x (u2.alloc (.cells #[.int .i64 x.k, .string x.n, .string x.t, .string x.d] 36))) := by
    have hr1 := HR1.out
    have hs1 := HS1.out
    have hz1 := HUu.out.2.2.1
    have hz2 := hu.1.2.2.1
    have hbA : Below u2.heap.size u2 (u2.alloc (.cells #[.int .i64 x.k, .string x.n, .string x.t, .string x.d] 36)) := by go_grown
    obtain ⟨z0, z1, z2, y0, y1, y2, y3⟩ := HZ.out
    have kk : ∀ b o, b < w1.heap.size → b ≠ r → u2.cell? ⟨b, o, none⟩ = w1.cell? ⟨b, o, none⟩ := fun b o hb hn => (hu.1.1 b o (by omega) hn).trans ((hbX.cell (p := ⟨b, o, none⟩) (by show b < _; omega)).trans (HUu.out.1 b o hb hn))
    have kf : ∀ b o, b < w1.heap.size → b ≠ r → u2.frozen? ⟨b, o, none⟩ = w1.frozen? ⟨b, o, none⟩ := fun b o hb hn => (hu.1.2.1 b o (by omega) hn).trans ((hbX.frozen (p := ⟨b, o, none⟩) (by show b < _; omega)).trans (HUu.out.2.1 b o hb hn))
    have hP : DkRowP (FarB r u1.heap.size u2.heap.size) u1 (.agg #[.slice a1 an1 ac1, .slice a2 an2 ac2, .slice a3 an3 ac3]) d := HP1.out.imp fun b hb hq => ⟨by omega, by omega, by omega⟩
    refine ⟨hr1, by omega, by omega, by simp, hr.below hbA, HC.out.at, ?_, ⟨a1, a2, a3, an1, an2, an3, ac1, ac2, ac3, cy hbA ((hu.1.1 _ 0 (by omega) (by omega)).trans e0), cy hbA ((hu.1.1 _ 1 (by omega) (by omega)).trans e1), cy hbA ((hu.1.1 _ 2 (by omega) (by omega)).trans e2), ((hP.below hbX).keep hz2 (fun b o hb hl => hu.1.1 b o hl (by have := hb.1; omega))).below hbA⟩, ?_, ?_, cy hbA ((kk _ _ (by omega) (by omega)).trans z0), cy hbA ((kk _ _ (by omega) (by omega)).trans z1), cy hbA ((kk _ _ (by omega) (by omega)).trans z2), cy hbA ((kk _ _ (by omega) (by omega)).trans y0), cy hbA ((kk _ _ (by omega) (by omega)).trans y1), cy hbA ((kk _ _ (by omega) (by omega)).trans y2), cy hbA ((kk _ _ (by omega) (by omega)).trans y3), HLL.out, hx⟩
    · exact (((HBW.out.trans (HUu.out.2.2.2.mono (by omega))).trans (hbX.mono (by omega))).trans (hu.1.2.2.2.mono (by omega))).trans (hbA.mono (by omega))
    · exact ⟨by go_simp, by go_simp, by go_simp, by go_simp⟩
    · intro b o hb
      rcases hb with rfl | rfl | hb
      · exact (hbA.frozen (p := ⟨_, o, none⟩) (by show u1.heap.size < _; omega)).trans ((hu.1.2.1 _ o (by omega) (by omega)).trans (ef o))
      · go_simp
      · exact (hbA.frozen (p := ⟨b, o, none⟩) (by show b < _; omega)).trans ((kf b o (by omega) (by omega)).trans (HF.out b o hb))
  clear hx hr hu hbX sX e0 e1 e2 ef HX1 HZ HF HP1 HRD HBW
  go_wp2_with fail
  refine (rd_below r A len cap 20 _ HI2.out.rd (by omega) (by omega)).mono ?_
  rintro e u3 ⟨k, rfl, k0, k1, hr, hu⟩
  obtain ⟨g5, HG5⟩ : ∃ g, Hid (u1.heap.size = g) := ⟨_, rfl⟩
  obtain ⟨g6, HG6⟩ : ∃ g, Hid (u2.heap.size = g) := ⟨_, rfl⟩
  have HI3 : Hid (DoI w r A len cap g5 g6 d x u3) := by rw [← HG5.out, ← HG6.out]; exact HI2.out.upd hu hr
  rw [HG5.out, HG6.out]
  clear hr hu HI2 HG5 HG6 HUu HRu HLL HS1
  by_cases e0 : k = 0
  · subst e0
    go_wp2_with fail
    refine (rd_off r A len cap 1 3 _ HI3.out.rd (by omega) (by omega) (by omega)).mono ?_
    rintro e u4 ⟨y, rfl, hr, hu⟩
    have HI4 : Hid (DoI w r A len cap g5 g6 d x u4) := HI3.out.upd hu hr
    clear hr hu
    obtain ⟨o0, o1, o2, o3⟩ := HI4.out.op
    have n6 : ∀ o, u4.frozen? ⟨g6, o, none⟩ = false := fun o => HI4.out.nf _ o (Or.inr (Or.inl rfl))
    have l6 := HI4.out.g6l
    go_upto_region 18 with fail
    obtain ⟨X4, HX4⟩ : ∃ X, Hid (u4.setCell ⟨g6, 0, none⟩ (.int .i64 y) = X) := ⟨_, rfl⟩
    rw [HX4.out]
    have HE : Hid (DoI w r A len cap g5 g6 d ((⟨y, x.n, x.t, x.d⟩ : DP)) X4) := by rw [← HX4.out]; exact HI4.out.putK y
    clear o0 o1 o2 o3 n6 l6 HX4
    obtain ⟨b1, b2, b3, m1, m2, m3, q1, q2, q3, f0, f1, f2, frow⟩ := HE.out.ex
    have FR : Hid (DkRowP (FarB r g5 g6) X4 (.agg #[.slice b1 m1 q1, .slice b2 m2 q2, .slice b3 m3 q3]) d) := frow
    obtain ⟨o0, o1, o2, o3⟩ := HE.out.op
    have z0 := HE.out.z0
    have z1 := HE.out.z1
    have z2 := HE.out.z2
    have y0 := HE.out.y0
    have y1 := HE.out.y1
    have y2 := HE.out.y2
    have y3 := HE.out.y3
    have n0 : ∀ o, X4.frozen? ⟨w.heap.size, o, none⟩ = false := fun o => HE.out.nf _ o (Or.inr (Or.inr (Or.inl rfl)))
    have n1 : ∀ o, X4.frozen? ⟨w.heap.size + 1, o, none⟩ = false := fun o => HE.out.nf _ o (Or.inr (Or.inr (Or.inr rfl)))
    have l6 := HE.out.g6l
    have l5 := HE.out.g5l
    have l56 := HE.out.g56
    have lr := HR1.out
    have ne1 : ¬ g5 = w.heap.size := by omega
    have ne2 : ¬ g5 = w.heap.size + 1 := by omega
    have ne3 : ¬ g6 = w.heap.size := by omega
    have ne4 : ¬ g6 = w.heap.size + 1 := by omega
    have lt5 : g5 < X4.heap.size := by omega
    have lt0 : w.heap.size < X4.heap.size := by omega
    have lt1 : w.heap.size + 1 < X4.heap.size := by omega
    clear frow
    go_wp2_with fail
    go_region
    go_wp2_with fail
    refine bodyPost_ret (v := .tuple #[.agg #[.slice b1 m1 q1, .slice b2 m2 q2, .slice b3 m3 q3], .agg #[.int .i64 ((⟨y, x.n, x.t, x.d⟩ : DP)).k, .string ((⟨y, x.n, x.t, x.d⟩ : DP)).n, .string ((⟨y, x.n, x.t, x.d⟩ : DP)).t, .string ((⟨y, x.n, x.t, x.d⟩ : DP)).d]]) ?_ rfl ⟨_, _, (⟨y, x.n, x.t, x.d⟩ : DP), rfl, ?_, HE.out.lil, HE.out.xl, ?_⟩
    · simp (maxDischargeDepth := 9) [results, Try.results19, go_sem, *]
    · have h0 := HE.out.out (g := w.heap.size) (Or.inl rfl)
      have h1 := HE.out.out (g := w.heap.size + 1) (Or.inr rfl)
      exact ((((((((FR.out.set h0).set h0).set h0).set h1).set h1).set h1).set h1).drew).row
    · have g0 : w.heap.size ≤ w.heap.size := Nat.le_refl _
      have g1 : w.heap.size ≤ w.heap.size + 1 := Nat.le_succ _
      exact (((((((HE.out.bel.setCell (by exact g0) _).setCell (by exact g0) _).setCell (by exact g0) _).setCell (by exact g1) _).setCell (by exact g1) _).setCell (by exact g1) _).setCell (by exact g1) _).drew
  by_cases e1 : k = 1
  · subst e1
    obtain ⟨o0, o1, o2, o3⟩ := HI3.out.op
    have n6 : ∀ o, u3.frozen? ⟨g6, o, none⟩ = false := fun o => HI3.out.nf _ o (Or.inr (Or.inl rfl))
    have l6 := HI3.out.g6l
    go_upto_region 18 with fail
    obtain ⟨X4, HX4⟩ : ∃ X, Hid (u3.setCell ⟨g6, 1, none⟩ (.string ⟨#[]⟩) = X) := ⟨_, rfl⟩
    rw [HX4.out]
    have HE : Hid (DoI w r A len cap g5 g6 d ((⟨x.k, ⟨#[]⟩, x.t, x.d⟩ : DP)) X4) := by rw [← HX4.out]; exact HI3.out.putN _ (by decide)
    clear o0 o1 o2 o3 n6 l6 HX4
    obtain ⟨b1, b2, b3, m1, m2, m3, q1, q2, q3, f0, f1, f2, frow⟩ := HE.out.ex
    have FR : Hid (DkRowP (FarB r g5 g6) X4 (.agg #[.slice b1 m1 q1, .slice b2 m2 q2, .slice b3 m3 q3]) d) := frow
    obtain ⟨o0, o1, o2, o3⟩ := HE.out.op
    have z0 := HE.out.z0
    have z1 := HE.out.z1
    have z2 := HE.out.z2
    have y0 := HE.out.y0
    have y1 := HE.out.y1
    have y2 := HE.out.y2
    have y3 := HE.out.y3
    have n0 : ∀ o, X4.frozen? ⟨w.heap.size, o, none⟩ = false := fun o => HE.out.nf _ o (Or.inr (Or.inr (Or.inl rfl)))
    have n1 : ∀ o, X4.frozen? ⟨w.heap.size + 1, o, none⟩ = false := fun o => HE.out.nf _ o (Or.inr (Or.inr (Or.inr rfl)))
    have l6 := HE.out.g6l
    have l5 := HE.out.g5l
    have l56 := HE.out.g56
    have lr := HR1.out
    have ne1 : ¬ g5 = w.heap.size := by omega
    have ne2 : ¬ g5 = w.heap.size + 1 := by omega
    have ne3 : ¬ g6 = w.heap.size := by omega
    have ne4 : ¬ g6 = w.heap.size + 1 := by omega
    have lt5 : g5 < X4.heap.size := by omega
    have lt0 : w.heap.size < X4.heap.size := by omega
    have lt1 : w.heap.size + 1 < X4.heap.size := by omega
    clear frow
    go_wp2_with fail
    go_region
    go_wp2_with fail
    refine bodyPost_ret (v := .tuple #[.agg #[.slice b1 m1 q1, .slice b2 m2 q2, .slice b3 m3 q3], .agg #[.int .i64 ((⟨x.k, ⟨#[]⟩, x.t, x.d⟩ : DP)).k, .string ((⟨x.k, ⟨#[]⟩, x.t, x.d⟩ : DP)).n, .string ((⟨x.k, ⟨#[]⟩, x.t, x.d⟩ : DP)).t, .string ((⟨x.k, ⟨#[]⟩, x.t, x.d⟩ : DP)).d]]) ?_ rfl ⟨_, _, (⟨x.k, ⟨#[]⟩, x.t, x.d⟩ : DP), rfl, ?_, HE.out.lil, HE.out.xl, ?_⟩
    · simp (maxDischargeDepth := 9) [results, Try.results19, go_sem, *]
    · have h0 := HE.out.out (g := w.heap.size) (Or.inl rfl)
      have h1 := HE.out.out (g := w.heap.size + 1) (Or.inr rfl)
      exact ((((((((FR.out.set h0).set h0).set h0).set h1).set h1).set h1).set h1).drew).row
    · have g0 : w.heap.size ≤ w.heap.size := Nat.le_refl _
      have g1 : w.heap.size ≤ w.heap.size + 1 := Nat.le_succ _
      exact (((((((HE.out.bel.setCell (by exact g0) _).setCell (by exact g0) _).setCell (by exact g0) _).setCell (by exact g1) _).setCell (by exact g1) _).setCell (by exact g1) _).setCell (by exact g1) _).drew
  by_cases e2 : k = 2
  · subst e2
    obtain ⟨o0, o1, o2, o3⟩ := HI3.out.op
    have n6 : ∀ o, u3.frozen? ⟨g6, o, none⟩ = false := fun o => HI3.out.nf _ o (Or.inr (Or.inl rfl))
    have l6 := HI3.out.g6l
    go_upto_region 18 with fail
    obtain ⟨X4, HX4⟩ : ∃ X, Hid (u3.setCell ⟨g6, 2, none⟩ (.string ⟨#[120]⟩) = X) := ⟨_, rfl⟩
    rw [HX4.out]
    have HE : Hid (DoI w r A len cap g5 g6 d ((⟨x.k, x.n, ⟨#[120]⟩, x.d⟩ : DP)) X4) := by rw [← HX4.out]; exact HI3.out.putT _ (by decide)
    clear o0 o1 o2 o3 n6 l6 HX4
    obtain ⟨b1, b2, b3, m1, m2, m3, q1, q2, q3, f0, f1, f2, frow⟩ := HE.out.ex
    have FR : Hid (DkRowP (FarB r g5 g6) X4 (.agg #[.slice b1 m1 q1, .slice b2 m2 q2, .slice b3 m3 q3]) d) := frow
    obtain ⟨o0, o1, o2, o3⟩ := HE.out.op
    have z0 := HE.out.z0
    have z1 := HE.out.z1
    have z2 := HE.out.z2
    have y0 := HE.out.y0
    have y1 := HE.out.y1
    have y2 := HE.out.y2
    have y3 := HE.out.y3
    have n0 : ∀ o, X4.frozen? ⟨w.heap.size, o, none⟩ = false := fun o => HE.out.nf _ o (Or.inr (Or.inr (Or.inl rfl)))
    have n1 : ∀ o, X4.frozen? ⟨w.heap.size + 1, o, none⟩ = false := fun o => HE.out.nf _ o (Or.inr (Or.inr (Or.inr rfl)))
    have l6 := HE.out.g6l
    have l5 := HE.out.g5l
    have l56 := HE.out.g56
    have lr := HR1.out
    have ne1 : ¬ g5 = w.heap.size := by omega
    have ne2 : ¬ g5 = w.heap.size + 1 := by omega
    have ne3 : ¬ g6 = w.heap.size := by omega
    have ne4 : ¬ g6 = w.heap.size + 1 := by omega
    have lt5 : g5 < X4.heap.size := by omega
    have lt0 : w.heap.size < X4.heap.size := by omega
    have lt1 : w.heap.size + 1 < X4.heap.size := by omega
    clear frow
    go_wp2_with fail
    go_region
    go_wp2_with fail
    refine bodyPost_ret (v := .tuple #[.agg #[.slice b1 m1 q1, .slice b2 m2 q2, .slice b3 m3 q3], .agg #[.int .i64 ((⟨x.k, x.n, ⟨#[120]⟩, x.d⟩ : DP)).k, .string ((⟨x.k, x.n, ⟨#[120]⟩, x.d⟩ : DP)).n, .string ((⟨x.k, x.n, ⟨#[120]⟩, x.d⟩ : DP)).t, .string ((⟨x.k, x.n, ⟨#[120]⟩, x.d⟩ : DP)).d]]) ?_ rfl ⟨_, _, (⟨x.k, x.n, ⟨#[120]⟩, x.d⟩ : DP), rfl, ?_, HE.out.lil, HE.out.xl, ?_⟩
    · simp (maxDischargeDepth := 9) [results, Try.results19, go_sem, *]
    · have h0 := HE.out.out (g := w.heap.size) (Or.inl rfl)
      have h1 := HE.out.out (g := w.heap.size + 1) (Or.inr rfl)
      exact ((((((((FR.out.set h0).set h0).set h0).set h1).set h1).set h1).set h1).drew).row
    · have g0 : w.heap.size ≤ w.heap.size := Nat.le_refl _
      have g1 : w.heap.size ≤ w.heap.size + 1 := Nat.le_succ _
      exact (((((((HE.out.bel.setCell (by exact g0) _).setCell (by exact g0) _).setCell (by exact g0) _).setCell (by exact g1) _).setCell (by exact g1) _).setCell (by exact g1) _).setCell (by exact g1) _).drew
  by_cases e3 : k = 3
  · subst e3
    clear k0 k1 e0 e1 e2
    go_wp2_with fail
    go_loopw [7] (fun i wr => ∃ (m : Nat) (d : DK), m ≤ 200 ∧ i = .int .i64 m ∧ DoI w r A len cap g5 g6 d x wr) (fun i _ => 200 - (intOf i).toNat)
    case atStart => exact ⟨0, d, Nat.zero_le _, rfl, HI3.out⟩
    case round =>
      obtain ⟨m, d, hm, rfl, hI⟩ := hrel
      have HI : Hid (DoI w r A len cap g5 g6 d x wr) := hI
      clear hI
      go_upto_region 13 with fail
      go_cut [41] from 31 to 52 (fun c wx => ∃ c' : Bool, c = .bool c' ∧ (c' = true → m < 200) ∧ DoI w r A len cap g5 g6 d x wx)
      case first =>
        obtain ⟨b1, b2, b3, m1, m2, m3, q1, q2, q3, f0, f1, f2, frow⟩ := HI.out.ex
        have l5 : g5 < wr.heap.size := by have := HI.out.g56; have := HI.out.g6l; omega
        have n5 : ¬ g5 = r := by have := HI.out.g5l; omega
        have lr : r < wr.heap.size := by have := HI.out.g5l; omega
        clear frow
        by_cases hlt : m < 200
        · have h1 : (m : Int) < 200 := by omega
          go_region_held3 (fun w' => (∀ bq oq, bq < wr.heap.size → ¬ bq = r → w'.cell? ⟨bq, oq, none⟩ = wr.cell? ⟨bq, oq, none⟩) ∧ wr.heap.size ≤ w'.heap.size)
            (first | exact sU hUU | exact sU (Upd.of_below (by omega) (by go_grown)))
            (first | (go_at_call 55; refine (rd_below r A len cap 2 _ (HI.out.rd.below (by go_grown)) (by omega) (by omega)).mono ?_; rintro e y4 ⟨v, rfl, v0, v1, hr, hu⟩; have J4 : Hid (DoI w r A len cap g5 g6 d x y4) := (HI.out.below (by go_grown)).upd hu hr; have hUU : Upd r wr y4 := Upd.trans (Upd.of_below (by omega) (by go_grown)) hu; clear hr hu))
          go_wp2_with fail
          go_meet
          exact ⟨_, rfl, fun _ => hlt, J4.out⟩
        · have h1 : ¬ (m : Int) < 200 := by omega
          go_quiet (fail)
          go_wp2_with fail
          go_meet
          exact ⟨_, rfl, (fun e => absurd e (by decide)), HI.out.below (below_drewN (Below.refl _ _) _)⟩
      case rest =>
        obtain ⟨c', rfl, hc', hI⟩ := hcut
        have J : Hid (DoI w r A len cap g5 g6 d x wc) := hI
        clear hI
        cases c'
        · clear hc'
          obtain ⟨b1, b2, b3, m1, m2, m3, q1, q2, q3, f0, f1, f2, frow⟩ := J.out.ex
          have FR : Hid (DkRowP (FarB r g5 g6) wc (.agg #[.slice b1 m1 q1, .slice b2 m2 q2, .slice b3 m3 q3]) d) := frow
          obtain ⟨o0, o1, o2, o3⟩ := J.out.op
          have z0 := J.out.z0
          have z1 := J.out.z1
          have z2 := J.out.z2
          have y0 := J.out.y0
          have y1 := J.out.y1
          have y2 := J.out.y2
          have y3 := J.out.y3
          have n0 : ∀ o, wc.frozen? ⟨w.heap.size, o, none⟩ = false := fun o => J.out.nf _ o (Or.inr (Or.inr (Or.inl rfl)))
          have n1 : ∀ o, wc.frozen? ⟨w.heap.size + 1, o, none⟩ = false := fun o => J.out.nf _ o (Or.inr (Or.inr (Or.inr rfl)))
          have l6 := J.out.g6l
          have l5 := J.out.g5l
          have l56 := J.out.g56
          have lr := HR1.out
          have ne1 : ¬ g5 = w.heap.size := by omega
          have ne2 : ¬ g5 = w.heap.size + 1 := by omega
          have ne3 : ¬ g6 = w.heap.size := by omega
          have ne4 : ¬ g6 = w.heap.size + 1 := by omega
          have lt5 : g5 < wc.heap.size := by omega
          have lt0 : w.heap.size < wc.heap.size := by omega
          have lt1 : w.heap.size + 1 < wc.heap.size := by omega
          clear frow
          go_wp2_with fail
          go_region
          go_wp2_with fail
          refine bodyPost_ret (v := .tuple #[.agg #[.slice b1 m1 q1, .slice b2 m2 q2, .slice b3 m3 q3], .agg #[.int .i64 (x).k, .string (x).n, .string (x).t, .string (x).d]]) ?_ rfl ⟨_, _, x, rfl, ?_, J.out.lil, J.out.xl, ?_⟩
          · simp (maxDischargeDepth := 9) [results, Try.results19, go_sem, *]
          · have h0 := J.out.out (g := w.heap.size) (Or.inl rfl)
            have h1 := J.out.out (g := w.heap.size + 1) (Or.inr rfl)
            exact ((((((((FR.out.set h0).set h0).set h0).set h1).set h1).set h1).set h1).drew).row
          · have g0 : w.heap.size ≤ w.heap.size := Nat.le_refl _
            have g1 : w.heap.size ≤ w.heap.size + 1 := Nat.le_succ _
            exact (((((((J.out.bel.setCell (by exact g0) _).setCell (by exact g0) _).setCell (by exact g0) _).setCell (by exact g1) _).setCell (by exact g1) _).setCell (by exact g1) _).setCell (by exact g1) _).drew
        · have hlt : m < 200 := hc' rfl
          obtain ⟨b1, b2, b3, m1, m2, m3, q1, q2, q3, f0, f1, f2, frow⟩ := J.out.ex
          have FR : Hid (DkRowP (FarB r g5 g6) wc (.agg #[.slice b1 m1 q1, .slice b2 m2 q2, .slice b3 m3 q3]) d) := frow
          have l6 := J.out.g6l
          have l56 := J.out.g56
          have l5 : g5 < wc.heap.size := by omega
          clear frow hc'
          obtain ⟨sk, HSK⟩ : ∃ k, Hid (sdK d bOp = k) := ⟨_, rfl⟩
          go_wp2_with fail
          refine (spec_Do bOp _ FR.out.row J.out.lil bOp_lil).mono ?_
          rintro e u5 ⟨vn, rfl, ho, hb⟩
          rw [HSK.out]
          obtain ⟨n1, n2, n3, nc1, nc2, nc3, nn1, nn2, nn3, rfl⟩ := ho.row.agg
          have J5 : Hid (DoI w r A len cap g5 g6 d x u5) := J.out.below hb
          have HN : Hid (DkRowP (FarB r g5 g6) u5 (.agg #[.slice n1 nn1 nc1, .slice n2 nn2 nc2, .slice n3 nn3 nc3]) (sdD d bOp)) := ho.rowF.toP.imp fun b hb2 hq => ⟨by have := J.out.g5l; omega, by omega, by omega⟩
          obtain ⟨X5, HX5⟩ : ∃ X, Hid (u5.alloc (.cells #[.slice n1 nn1 nc1, .slice n2 nn2 nc2, .slice n3 nn3 nc3] 27) = X) := ⟨_, rfl⟩
          have bX5 : Below u5.heap.size u5 X5 := by rw [← HX5.out]; go_grown
          have J6 : Hid (DoI w r A len cap g5 g6 d x X5) := J5.out.below bX5
          have HN6 : Hid (DkRowP (FarB r g5 g6) X5 (.agg #[.slice n1 nn1 nc1, .slice n2 nn2 nc2, .slice n3 nn3 nc3]) (sdD d bOp)) := HN.out.below bX5
          have x0 : X5.cell? ⟨u5.heap.size, 0, none⟩ = some (.slice n1 nn1 nc1) := by rw [← HX5.out]; go_simp
          have x1 : X5.cell? ⟨u5.heap.size, 1, none⟩ = some (.slice n2 nn2 nc2) := by rw [← HX5.out]; go_simp
          have x2 : X5.cell? ⟨u5.heap.size, 2, none⟩ = some (.slice n3 nn3 nc3) := by rw [← HX5.out]; go_simp
          obtain ⟨_, _, _, _, _, _, _, _, _, h0, h1, h2, _⟩ := J6.out.ex
          have nf5 : ∀ o, X5.frozen? ⟨g5, o, none⟩ = false := fun o => J6.out.nf _ o (Or.inl rfl)
          have z5 : u5.heap.size < X5.heap.size := by rw [← HX5.out]; simp
          have z6 : g5 < u5.heap.size := by have := J5.out.g56; have := J5.out.g6l; omega
          have z7 : g5 < X5.heap.size := by omega
          have z8 : ¬ g5 = u5.heap.size := by omega
          have z9 : ¬ u5.heap.size = g5 := by omega
          clear ho hb bX5 HN J5 FR J f0 f1 f2 l5 l6 l56
          by_cases hs : sk = 0
          · subst hs
            have HLA : Hid (DkLil (sdD d bOp)) := by
              have hd : diskB d = true := by
                cases e : diskB d with
                | true => rfl
                | false => have h9 := HSK.out; rw [sdK, if_neg (by rw [e]; simp)] at h9; cases h9
              have h9 := HSK.out
              rw [sdK, if_pos hd] at h9
              rw [sdD, if_pos hd]
              exact act_lil hd J6.out.lil bOp_lil h9
            go_upto_region 16 with fail
            rw [HX5.out]
            clear HX5
            go_wp2_with fail
            go_roundw
            case rel => exact ⟨m + 1, _, by omega, by go_num, J6.out.putD HN6.out HLA.out⟩
            case measure => simp [intOf]; omega
          · have hs2 : (sk == 0) = false := by simpa using hs
            go_upto_region 16 with fail
            rw [HX5.out]
            clear HX5
            go_wp2_with fail
            go_roundw
            case rel => exact ⟨m + 1, d, by omega, by go_num, J6.out⟩
            case measure => simp [intOf]; omega
  obtain ⟨b1, b2, b3, m1, m2, m3, q1, q2, q3, f0, f1, f2, frow⟩ := HI3.out.ex
  have FR : Hid (DkRowP (FarB r g5 g6) u3 (.agg #[.slice b1 m1 q1, .slice b2 m2 q2, .slice b3 m3 q3]) d) := frow
  obtain ⟨o0, o1, o2, o3⟩ := HI3.out.op
  have z0 := HI3.out.z0
  have z1 := HI3.out.z1
  have z2 := HI3.out.z2
  have y0 := HI3.out.y0
  have y1 := HI3.out.y1
  have y2 := HI3.out.y2
  have y3 := HI3.out.y3
  have n0 : ∀ o, u3.frozen? ⟨w.heap.size, o, none⟩ = false := fun o => HI3.out.nf _ o (Or.inr (Or.inr (Or.inl rfl)))
  have n1 : ∀ o, u3.frozen? ⟨w.heap.size + 1, o, none⟩ = false := fun o => HI3.out.nf _ o (Or.inr (Or.inr (Or.inr rfl)))
  have l6 := HI3.out.g6l
  have l5 := HI3.out.g5l
  have l56 := HI3.out.g56
  have lr := HR1.out
  have ne1 : ¬ g5 = w.heap.size := by omega
  have ne2 : ¬ g5 = w.heap.size + 1 := by omega
  have ne3 : ¬ g6 = w.heap.size := by omega
  have ne4 : ¬ g6 = w.heap.size + 1 := by omega
  have lt5 : g5 < u3.heap.size := by omega
  have lt0 : w.heap.size < u3.heap.size := by omega
  have lt1 : w.heap.size + 1 < u3.heap.size := by omega
  clear frow
  go_wp2_with fail
  go_region
  go_wp2_with fail
  refine bodyPost_ret (v := .tuple #[.agg #[.slice b1 m1 q1, .slice b2 m2 q2, .slice b3 m3 q3], .agg #[.int .i64 (x).k, .string (x).n, .string (x).t, .string (x).d]]) ?_ rfl ⟨_, _, x, rfl, ?_, HI3.out.lil, HI3.out.xl, ?_⟩
  · simp (maxDischargeDepth := 9) [results, Try.results19, go_sem, *]
  · have h0 := HI3.out.out (g := w.heap.size) (Or.inl rfl)
    have h1 := HI3.out.out (g := w.heap.size + 1) (Or.inr rfl)
    exact ((((((((FR.out.set h0).set h0).set h0).set h1).set h1).set h1).set h1).drew).row
  · have g0 : w.heap.size ≤ w.heap.size := Nat.le_refl _
    have g1 : w.heap.size ≤ w.heap.size + 1 := Nat.le_succ _
    exact (((((((HI3.out.bel.setCell (by exact g0) _).setCell (by exact g0) _).setCell (by exact g0) _).setCell (by exact g1) _).setCell (by exact g1) _).setCell (by exact g1) _).setCell (by exact g1) _).drew
end Go.Proofs.Ytanjlpgdmnapdaa
