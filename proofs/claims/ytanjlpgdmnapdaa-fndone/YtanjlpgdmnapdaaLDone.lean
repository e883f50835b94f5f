import Derived.Test.YtanjlpgdmnapdaaDdD
import Derived.Test.YtanjlpgdmnapdaaCwD
import Derived.Test.YtanjlpgdmnapdaaLcA
namespace Go.Proofs.Ytanjlpgdmnapdaa
open Go.RowKit Go.Maps
set_option linter.unusedSimpArgs false
set_option linter.unusedVariables false

theorem sdK_yes {d : DK} {x : DP} (h : diskB d = true) : sdK d x = doK d x := by rw [sdK, if_pos h]
theorem sdD_yes {d : DK} {x : DP} (h : diskB d = true) : sdD d x = acD d x := by rw [sdD, if_pos h]
set_option maxRecDepth 100000 in
set_option maxHeartbeats 16000000 in
theorem law_FnDone (A : Option Addr) (len cap : Nat) (w : World) (hz : Co w A len) :
    Calls Try.prog 4 #[.slice A len cap] w fun e w' => e = .returned (.bool true) ∧ Below w.heap.size w w' := by
  by_cases hbig : (1048576 : Int) < (len : Int)
  · go_enter Try.func4, Try.ntmps4
    go_wp2_with fail
    refine (laws_big A len cap _).mono ?_
    rintro e wq ⟨rfl, hw⟩
    subst wq
    go_wp2_with fail
    go_ret
    exact ⟨rfl, by go_grown⟩
  have HC : Hid (Cd w A len) := ⟨by omega, hz.2⟩
  clear hz
  go_enter Try.func4, Try.ntmps4
  go_wp2_with fail
  refine (laws_big A len cap _).mono ?_
  rintro e wq ⟨rfl, hw⟩
  subst wq
  go_wp2_with fail
  refine (draw_do A len cap _ HC.out).mono ?_
  rintro e u1 ⟨v, d, x, rfl, hrow, hl, hx, hb⟩
  obtain ⟨d1, d2, d3, dc1, dc2, dc3, dn1, dn2, dn3, rfl⟩ := hrow.agg
  have RD : Hid (DkRow u1 (.agg #[.slice d1 dn1 dc1, .slice d2 dn2 dc2, .slice d3 dn3 dc3]) d) := hrow
  have HL : Hid (DkLil d) := hl
  have HX : Hid (dpLil x) := hx
  have K : Hid (Below w.heap.size w u1) := hb
  have HD : Hid ((d.live.length = dn1) ∧ d.safe.length = dn2 ∧ d.ops.length = dn3) := ⟨hrow.open3.1.2, hrow.open3.2.1.2, hrow.open3.2.2⟩
  have hn3 : dn3 ≤ 1048576 := by rw [← HD.out.2.2]; exact hl.n3
  have H1 : Hid (FiRow u1 d1 d.live) := hrow.open3.1.1
  have H2 : Hid (FiRow u1 d2 d.safe) := hrow.open3.2.1.1
  clear hrow hl hb HC hx
  obtain ⟨db, HDB⟩ : ∃ db, Hid (diskB d = db) := ⟨_, rfl⟩
  obtain ⟨sk, HSK⟩ : ∃ sk, Hid (sdK d x = sk) := ⟨_, rfl⟩
  go_wp2_with fail
  obtain ⟨X0, HX0⟩ : ∃ X, Hid ((u1.alloc (.cells #[.slice d1 dn1 dc1, .slice d2 dn2 dc2, .slice d3 dn3 dc3] 27)).alloc (.cells #[.int .i64 x.k, .string x.n, .string x.t, .string x.d] 36) = X) := ⟨_, rfl⟩
  rw [HX0.out]
  have bX0 : Below u1.heap.size u1 X0 := by rw [← HX0.out]; go_grown
  have d_0 : X0.cell? ⟨u1.heap.size, 0, none⟩ = some (.slice d1 dn1 dc1) := by rw [← HX0.out]; go_simp
  have d_1 : X0.cell? ⟨u1.heap.size, 1, none⟩ = some (.slice d2 dn2 dc2) := by rw [← HX0.out]; go_simp
  have d_2 : X0.cell? ⟨u1.heap.size, 2, none⟩ = some (.slice d3 dn3 dc3) := by rw [← HX0.out]; go_simp
  have p_0 : X0.cell? ⟨u1.heap.size + 1, 0, none⟩ = some (.int .i64 x.k) := by rw [← HX0.out]; go_simp
  have p_1 : X0.cell? ⟨u1.heap.size + 1, 1, none⟩ = some (.string x.n) := by rw [← HX0.out]; go_simp
  have p_2 : X0.cell? ⟨u1.heap.size + 1, 2, none⟩ = some (.string x.t) := by rw [← HX0.out]; go_simp
  have p_3 : X0.cell? ⟨u1.heap.size + 1, 3, none⟩ = some (.string x.d) := by rw [← HX0.out]; go_simp
  have zp : u1.heap.size + 1 < X0.heap.size := by rw [← HX0.out]; simp
  have zd : u1.heap.size < X0.heap.size := by omega
  clear HX0
  replace RD : Hid (DkRow X0 (.agg #[.slice d1 dn1 dc1, .slice d2 dn2 dc2, .slice d3 dn3 dc3]) d) := RD.out.below bX0
  replace H1 : Hid (FiRow X0 d1 d.live) := H1.out.below bX0
  replace H2 : Hid (FiRow X0 d2 d.safe) := H2.out.below bX0
  replace K : Hid (Below w.heap.size w X0) := bchain K.out bX0
  clear bX0
  refine (impl_Do x _ RD.out HL.out HX.out).mono ?_
  rintro e u2 ⟨va, rfl, ho, hb⟩
  rw [HSK.out]
  replace d_0 := cy hb d_0
  replace d_1 := cy hb d_1
  replace d_2 := cy hb d_2
  replace p_0 := cy hb p_0
  replace p_1 := cy hb p_1
  replace p_2 := cy hb p_2
  replace p_3 := cy hb p_3
  replace RD : Hid (DkRow u2 (.agg #[.slice d1 dn1 dc1, .slice d2 dn2 dc2, .slice d3 dn3 dc3]) d) := RD.out.below hb
  replace H1 : Hid (FiRow u2 d1 d.live) := H1.out.below hb
  replace H2 : Hid (FiRow u2 d2 d.safe) := H2.out.below hb
  replace zp : u1.heap.size + 1 < u2.heap.size := Nat.lt_of_lt_of_le zp hb.size
  replace zd : u1.heap.size < u2.heap.size := Nat.lt_of_lt_of_le zd hb.size
  replace K : Hid (Below w.heap.size w u2) := bchain K.out hb
  obtain ⟨a1, a2, a3, ac1, ac2, ac3, an1, an2, an3, rfl⟩ := ho.row.agg
  have RA : Hid (DkRow u2 (.agg #[.slice a1 an1 ac1, .slice a2 an2 ac2, .slice a3 an3 ac3]) (sdD d x)) := ho.row
  clear hb ho
  go_wp2_with fail
  obtain ⟨X2, HX2⟩ : ∃ X, Hid (u2.alloc (.cells #[.slice a1 an1 ac1, .slice a2 an2 ac2, .slice a3 an3 ac3] 27) = X) := ⟨_, rfl⟩
  rw [HX2.out]
  have bX2 : Below u2.heap.size u2 X2 := by rw [← HX2.out]; go_grown
  have a_0 : X2.cell? ⟨u2.heap.size, 0, none⟩ = some (.slice a1 an1 ac1) := by rw [← HX2.out]; go_simp
  have a_1 : X2.cell? ⟨u2.heap.size, 1, none⟩ = some (.slice a2 an2 ac2) := by rw [← HX2.out]; go_simp
  have a_2 : X2.cell? ⟨u2.heap.size, 2, none⟩ = some (.slice a3 an3 ac3) := by rw [← HX2.out]; go_simp
  have za : u2.heap.size < X2.heap.size := by rw [← HX2.out]; simp
  clear HX2
  replace d_0 := cy bX2 d_0
  replace d_1 := cy bX2 d_1
  replace d_2 := cy bX2 d_2
  replace p_0 := cy bX2 p_0
  replace p_1 := cy bX2 p_1
  replace p_2 := cy bX2 p_2
  replace p_3 := cy bX2 p_3
  replace RD : Hid (DkRow X2 (.agg #[.slice d1 dn1 dc1, .slice d2 dn2 dc2, .slice d3 dn3 dc3]) d) := RD.out.below bX2
  replace H1 : Hid (FiRow X2 d1 d.live) := H1.out.below bX2
  replace H2 : Hid (FiRow X2 d2 d.safe) := H2.out.below bX2
  replace RA : Hid (DkRow X2 (.agg #[.slice a1 an1 ac1, .slice a2 an2 ac2, .slice a3 an3 ac3]) (sdD d x)) := RA.out.below bX2
  replace zp : u1.heap.size + 1 < X2.heap.size := Nat.lt_of_lt_of_le zp bX2.size
  replace zd : u1.heap.size < X2.heap.size := Nat.lt_of_lt_of_le zd bX2.size
  replace K : Hid (Below w.heap.size w X2) := bchain K.out bX2
  clear bX2
  refine (spec_Do x _ RD.out HL.out HX.out).mono ?_
  rintro e u3 ⟨vb, rfl, ho, hb⟩
  rw [HSK.out]
  replace d_0 := cy hb d_0
  replace d_1 := cy hb d_1
  replace d_2 := cy hb d_2
  replace p_0 := cy hb p_0
  replace p_1 := cy hb p_1
  replace p_2 := cy hb p_2
  replace p_3 := cy hb p_3
  replace a_0 := cy hb a_0
  replace a_1 := cy hb a_1
  replace a_2 := cy hb a_2
  replace RD : Hid (DkRow u3 (.agg #[.slice d1 dn1 dc1, .slice d2 dn2 dc2, .slice d3 dn3 dc3]) d) := RD.out.below hb
  replace H1 : Hid (FiRow u3 d1 d.live) := H1.out.below hb
  replace H2 : Hid (FiRow u3 d2 d.safe) := H2.out.below hb
  replace RA : Hid (DkRow u3 (.agg #[.slice a1 an1 ac1, .slice a2 an2 ac2, .slice a3 an3 ac3]) (sdD d x)) := RA.out.below hb
  replace zp : u1.heap.size + 1 < u3.heap.size := Nat.lt_of_lt_of_le zp hb.size
  replace zd : u1.heap.size < u3.heap.size := Nat.lt_of_lt_of_le zd hb.size
  replace za : u2.heap.size < u3.heap.size := Nat.lt_of_lt_of_le za hb.size
  replace K : Hid (Below w.heap.size w u3) := bchain K.out hb
  obtain ⟨b1, b2, b3, bc1, bc2, bc3, bn1, bn2, bn3, rfl⟩ := ho.row.agg
  clear hb ho
  go_wp2_with fail
  obtain ⟨X3, HX3⟩ : ∃ X, Hid (u3.alloc (.cells #[.slice b1 bn1 bc1, .slice b2 bn2 bc2, .slice b3 bn3 bc3] 27) = X) := ⟨_, rfl⟩
  rw [HX3.out]
  have bX3 : Below u3.heap.size u3 X3 := by rw [← HX3.out]; go_grown
  have zb : u3.heap.size < X3.heap.size := by rw [← HX3.out]; simp
  clear HX3
  replace d_0 := cy bX3 d_0
  replace d_1 := cy bX3 d_1
  replace d_2 := cy bX3 d_2
  replace p_0 := cy bX3 p_0
  replace p_1 := cy bX3 p_1
  replace p_2 := cy bX3 p_2
  replace p_3 := cy bX3 p_3
  replace a_0 := cy bX3 a_0
  replace a_1 := cy bX3 a_1
  replace a_2 := cy bX3 a_2
  replace RD : Hid (DkRow X3 (.agg #[.slice d1 dn1 dc1, .slice d2 dn2 dc2, .slice d3 dn3 dc3]) d) := RD.out.below bX3
  replace H1 : Hid (FiRow X3 d1 d.live) := H1.out.below bX3
  replace H2 : Hid (FiRow X3 d2 d.safe) := H2.out.below bX3
  replace RA : Hid (DkRow X3 (.agg #[.slice a1 an1 ac1, .slice a2 an2 ac2, .slice a3 an3 ac3]) (sdD d x)) := RA.out.below bX3
  replace zp : u1.heap.size + 1 < X3.heap.size := Nat.lt_of_lt_of_le zp bX3.size
  replace zd : u1.heap.size < X3.heap.size := Nat.lt_of_lt_of_le zd bX3.size
  replace za : u2.heap.size < X3.heap.size := Nat.lt_of_lt_of_le za bX3.size
  replace K : Hid (Below w.heap.size w X3) := bchain K.out bX3
  clear bX3
  clear zb
  refine (spec_DiskOk _ RD.out HL.out).mono ?_
  rintro e u4 ⟨rfl, hb⟩
  rw [HDB.out]
  replace d_0 := cy hb d_0
  replace d_1 := cy hb d_1
  replace d_2 := cy hb d_2
  replace p_0 := cy hb p_0
  replace p_1 := cy hb p_1
  replace p_2 := cy hb p_2
  replace p_3 := cy hb p_3
  replace a_0 := cy hb a_0
  replace a_1 := cy hb a_1
  replace a_2 := cy hb a_2
  replace RD : Hid (DkRow u4 (.agg #[.slice d1 dn1 dc1, .slice d2 dn2 dc2, .slice d3 dn3 dc3]) d) := RD.out.below hb
  replace H1 : Hid (FiRow u4 d1 d.live) := H1.out.below hb
  replace H2 : Hid (FiRow u4 d2 d.safe) := H2.out.below hb
  replace RA : Hid (DkRow u4 (.agg #[.slice a1 an1 ac1, .slice a2 an2 ac2, .slice a3 an3 ac3]) (sdD d x)) := RA.out.below hb
  replace zp : u1.heap.size + 1 < u4.heap.size := Nat.lt_of_lt_of_le zp hb.size
  replace zd : u1.heap.size < u4.heap.size := Nat.lt_of_lt_of_le zd hb.size
  replace za : u2.heap.size < u4.heap.size := Nat.lt_of_lt_of_le za hb.size
  replace K : Hid (Below w.heap.size w u4) := bchain K.out hb
  clear hb
  cases db
  · go_wp2_with fail
    go_ret
    exact ⟨rfl, K.out⟩
  by_cases hs : sk = 0
  rotate_left
  · have e9 : sdD d x = d := by
      rw [sdD_yes HDB.out]
      exact acD_no (by rw [← sdK_yes HDB.out, HSK.out]; exact hs)
    have HAA : Hid ((FiRow u4 a1 d.live ∧ d.live.length = an1) ∧ (FiRow u4 a2 d.safe ∧ d.safe.length = an2) ∧ d.ops.length = an3) := by
      have h9 := RA.out
      rw [e9] at h9
      exact h9.open3
    have HA1 : Hid (FiRow u4 a1 d.live) := HAA.out.1.1
    have HA2 : Hid (FiRow u4 a2 d.safe) := HAA.out.2.1.1
    have HN : Hid (d.live.length = an1 ∧ d.safe.length = an2) := ⟨HAA.out.1.2, HAA.out.2.1.2⟩
    obtain rfl : dn3 = an3 := HD.out.2.2.symm.trans HAA.out.2.2
    clear HAA e9
    clear RD RA p_0 p_1 p_2 p_3
    go_wp2_with fail
    refine (laws_sameFiles _ HA1.out H1.out HN.out.1 HD.out.1).mono ?_
    rintro e u5 ⟨rfl, hb⟩
    rw [sameB_iff.2 rfl]
    clear HA1 H1 a_0 d_0
    replace d_1 := cy hb d_1
    replace d_2 := cy hb d_2
    replace a_1 := cy hb a_1
    replace a_2 := cy hb a_2
    replace H2 : Hid (FiRow u5 d2 d.safe) := H2.out.below hb
    replace HA2 : Hid (FiRow u5 a2 d.safe) := HA2.out.below hb
    replace zp : u1.heap.size + 1 < u5.heap.size := Nat.lt_of_lt_of_le zp hb.size
    replace zd : u1.heap.size < u5.heap.size := Nat.lt_of_lt_of_le zd hb.size
    replace za : u2.heap.size < u5.heap.size := Nat.lt_of_lt_of_le za hb.size
    replace K : Hid (Below w.heap.size w u5) := bchain K.out hb
    clear hb
    go_wp2_with fail
    refine (laws_sameFiles _ HA2.out H2.out HN.out.2 HD.out.2.1).mono ?_
    rintro e u6 ⟨rfl, hb⟩
    rw [sameB_iff.2 rfl]
    clear HA2 H2 a_1 d_1
    replace d_2 := cy hb d_2
    replace a_2 := cy hb a_2
    replace zp : u1.heap.size + 1 < u6.heap.size := Nat.lt_of_lt_of_le zp hb.size
    replace zd : u1.heap.size < u6.heap.size := Nat.lt_of_lt_of_le zd hb.size
    replace za : u2.heap.size < u6.heap.size := Nat.lt_of_lt_of_le za hb.size
    replace K : Hid (Below w.heap.size w u6) := bchain K.out hb
    clear hb
    go_wp2_with fail
    go_ret
    exact ⟨rfl, K.out⟩
  subst hs
  have HK0 : Hid (doK d x = 0) := by rw [← sdK_yes HDB.out]; exact HSK.out
  have HAD : Hid (diskB (acD d x) = true) := act_disk HDB.out HK0.out
  have HAL : Hid (DkLil (acD d x)) := act_lil HDB.out HL.out HX.out HK0.out
  replace RA : Hid (DkRow u4 (.agg #[.slice a1 an1 ac1, .slice a2 an2 ac2, .slice a3 an3 ac3]) (acD d x)) := by
    have h9 := RA.out
    rw [sdD_yes HDB.out] at h9
    exact h9
  have HAA : Hid ((FiRow u4 a1 (acD d x).live ∧ (acD d x).live.length = an1) ∧ (FiRow u4 a2 d.safe ∧ d.safe.length = an2) ∧ d.ops.length + 1 = an3) := by
    have h9 := RA.out.open3
    rw [acD_yes HK0.out] at h9 ⊢
    exact ⟨h9.1, h9.2.1, by simpa using h9.2.2⟩
  have HA2 : Hid (FiRow u4 a2 d.safe) := HAA.out.2.1.1
  have HN : Hid (d.safe.length = an2) := HAA.out.2.1.2
  obtain rfl : dn3 + 1 = an3 := by rw [← HD.out.2.2]; exact HAA.out.2.2
  clear HAA
  clear H1
  obtain ⟨xs, HXS⟩ : ∃ s, Hid (rdS (acD d x) x.n = s) := ⟨_, rfl⟩
  obtain ⟨xb, HXB⟩ : ∃ s, Hid (rdB (acD d x) x.n = s) := ⟨_, rfl⟩
  obtain ⟨ys, HYS⟩ : ∃ s, Hid (rdS d x.n = s) := ⟨_, rfl⟩
  obtain ⟨yb, HYB⟩ : ∃ s, Hid (rdB d x.n = s) := ⟨_, rfl⟩
  go_wp2_with fail
  refine (impl_ReadFile x.n _ RA.out HAL.out).mono ?_
  rintro e u5 ⟨rfl, hb⟩
  rw [HXS.out, HXB.out]
  replace d_0 := cy hb d_0
  replace d_1 := cy hb d_1
  replace d_2 := cy hb d_2
  replace p_0 := cy hb p_0
  replace p_1 := cy hb p_1
  replace p_2 := cy hb p_2
  replace p_3 := cy hb p_3
  replace a_0 := cy hb a_0
  replace a_1 := cy hb a_1
  replace a_2 := cy hb a_2
  replace RD : Hid (DkRow u5 (.agg #[.slice d1 dn1 dc1, .slice d2 dn2 dc2, .slice d3 dn3 dc3]) d) := RD.out.below hb
  replace H2 : Hid (FiRow u5 d2 d.safe) := H2.out.below hb
  replace RA : Hid (DkRow u5 (.agg #[.slice a1 an1 ac1, .slice a2 an2 ac2, .slice a3 (dn3 + 1) ac3]) (acD d x)) := RA.out.below hb
  replace HA2 : Hid (FiRow u5 a2 d.safe) := HA2.out.below hb
  replace zp : u1.heap.size + 1 < u5.heap.size := Nat.lt_of_lt_of_le zp hb.size
  replace zd : u1.heap.size < u5.heap.size := Nat.lt_of_lt_of_le zd hb.size
  replace za : u2.heap.size < u5.heap.size := Nat.lt_of_lt_of_le za hb.size
  replace K : Hid (Below w.heap.size w u5) := bchain K.out hb
  clear hb
  go_wp2_with fail
  refine (impl_ReadFile x.n _ RD.out HL.out).mono ?_
  rintro e u6 ⟨rfl, hb⟩
  rw [HYS.out, HYB.out]
  replace d_0 := cy hb d_0
  replace d_1 := cy hb d_1
  replace d_2 := cy hb d_2
  replace p_0 := cy hb p_0
  replace p_1 := cy hb p_1
  replace p_2 := cy hb p_2
  replace p_3 := cy hb p_3
  replace a_0 := cy hb a_0
  replace a_1 := cy hb a_1
  replace a_2 := cy hb a_2
  replace RD : Hid (DkRow u6 (.agg #[.slice d1 dn1 dc1, .slice d2 dn2 dc2, .slice d3 dn3 dc3]) d) := RD.out.below hb
  replace H2 : Hid (FiRow u6 d2 d.safe) := H2.out.below hb
  replace RA : Hid (DkRow u6 (.agg #[.slice a1 an1 ac1, .slice a2 an2 ac2, .slice a3 (dn3 + 1) ac3]) (acD d x)) := RA.out.below hb
  replace HA2 : Hid (FiRow u6 a2 d.safe) := HA2.out.below hb
  replace zp : u1.heap.size + 1 < u6.heap.size := Nat.lt_of_lt_of_le zp hb.size
  replace zd : u1.heap.size < u6.heap.size := Nat.lt_of_lt_of_le zd hb.size
  replace za : u2.heap.size < u6.heap.size := Nat.lt_of_lt_of_le za hb.size
  replace K : Hid (Below w.heap.size w u6) := bchain K.out hb
  clear hb
  clear RD d_0
  have hkind := done_kind HK0.out
  rcases hkind with hk | hk | hk
  · have hd := done_1 HDB.out HK0.out hk
    rw [HXS.out, HXB.out, HYS.out] at hd
    obtain ⟨rfl, hd2⟩ := hd
    have hdq : (xs.toList == (ys ++ x.d).toList) = true := str_eq hd2
    have hys : ys.size ≤ 200000 := by
      rw [← HYS.out, rdS_of _ HDB.out]
      exact Nat.le_trans (dataK_le _ _) (files_parts (disk_parts HDB.out).1).2.2.2
    have hxd : x.d.size ≤ 1048576 := HX.out.2.2
    have hyx : ys.size + x.d.size ≤ maxLen := by unfold maxLen; omega
    have hyx2 : (ys ++ x.d).size ≤ maxLen := by rw [ByteArray.size_append]; exact hyx
    rw [hk] at p_0
    clear hk hd2
    go_wp2_with fail
    refine (impl_DiskOk _ RA.out HAL.out).mono ?_
    rintro e u7 ⟨rfl, hb⟩
    rw [HAD.out]
    replace d_1 := cy hb d_1
    replace d_2 := cy hb d_2
    replace p_0 := cy hb p_0
    replace p_1 := cy hb p_1
    replace p_2 := cy hb p_2
    replace p_3 := cy hb p_3
    replace a_0 := cy hb a_0
    replace a_1 := cy hb a_1
    replace a_2 := cy hb a_2
    replace H2 : Hid (FiRow u7 d2 d.safe) := H2.out.below hb
    replace RA : Hid (DkRow u7 (.agg #[.slice a1 an1 ac1, .slice a2 an2 ac2, .slice a3 (dn3 + 1) ac3]) (acD d x)) := RA.out.below hb
    replace HA2 : Hid (FiRow u7 a2 d.safe) := HA2.out.below hb
    replace zp : u1.heap.size + 1 < u7.heap.size := Nat.lt_of_lt_of_le zp hb.size
    replace zd : u1.heap.size < u7.heap.size := Nat.lt_of_lt_of_le zd hb.size
    replace za : u2.heap.size < u7.heap.size := Nat.lt_of_lt_of_le za hb.size
    replace K : Hid (Below w.heap.size w u7) := bchain K.out hb
    clear hb
    go_wp2_with fail
    refine (laws_sameFiles _ HA2.out H2.out HN.out HD.out.2.1).mono ?_
    rintro e u8 ⟨rfl, hb⟩
    rw [sameB_iff.2 rfl]
    replace d_1 := cy hb d_1
    replace d_2 := cy hb d_2
    replace p_0 := cy hb p_0
    replace p_1 := cy hb p_1
    replace p_2 := cy hb p_2
    replace p_3 := cy hb p_3
    replace a_0 := cy hb a_0
    replace a_1 := cy hb a_1
    replace a_2 := cy hb a_2
    replace H2 : Hid (FiRow u8 d2 d.safe) := H2.out.below hb
    replace RA : Hid (DkRow u8 (.agg #[.slice a1 an1 ac1, .slice a2 an2 ac2, .slice a3 (dn3 + 1) ac3]) (acD d x)) := RA.out.below hb
    replace HA2 : Hid (FiRow u8 a2 d.safe) := HA2.out.below hb
    replace zp : u1.heap.size + 1 < u8.heap.size := Nat.lt_of_lt_of_le zp hb.size
    replace zd : u1.heap.size < u8.heap.size := Nat.lt_of_lt_of_le zd hb.size
    replace za : u2.heap.size < u8.heap.size := Nat.lt_of_lt_of_le za hb.size
    replace K : Hid (Below w.heap.size w u8) := bchain K.out hb
    clear hb
    go_wp2_with fail
    go_ret
    exact ⟨rfl, K.out⟩
  · have hd := done_2 HDB.out HK0.out hk
    rw [HXB.out, HYS.out] at hd
    obtain ⟨hd1, hd2, hd3⟩ := hd
    rw [hk] at p_0
    clear hk
    have HT : Hid (rdS (acD d x) x.t = ys ∧ rdB (acD d x) x.t = true) := ⟨hd2, hd1⟩
    clear hd1 hd2
    go_wp2_with fail
    refine (impl_ReadFile x.t _ RA.out HAL.out).mono ?_
    rintro e u7 ⟨rfl, hb⟩
    rw [HT.out.1, HT.out.2]
    replace d_1 := cy hb d_1
    replace d_2 := cy hb d_2
    replace p_0 := cy hb p_0
    replace p_1 := cy hb p_1
    replace p_2 := cy hb p_2
    replace p_3 := cy hb p_3
    replace a_0 := cy hb a_0
    replace a_1 := cy hb a_1
    replace a_2 := cy hb a_2
    replace H2 : Hid (FiRow u7 d2 d.safe) := H2.out.below hb
    replace RA : Hid (DkRow u7 (.agg #[.slice a1 an1 ac1, .slice a2 an2 ac2, .slice a3 (dn3 + 1) ac3]) (acD d x)) := RA.out.below hb
    replace HA2 : Hid (FiRow u7 a2 d.safe) := HA2.out.below hb
    replace zp : u1.heap.size + 1 < u7.heap.size := Nat.lt_of_lt_of_le zp hb.size
    replace zd : u1.heap.size < u7.heap.size := Nat.lt_of_lt_of_le zd hb.size
    replace za : u2.heap.size < u7.heap.size := Nat.lt_of_lt_of_le za hb.size
    replace K : Hid (Below w.heap.size w u7) := bchain K.out hb
    clear hb
    have hyy : (ys.toList == ys.toList) = true := str_eq rfl
    go_wp2_with fail
    refine (impl_DiskOk _ RA.out HAL.out).mono ?_
    rintro e u8 ⟨rfl, hb⟩
    rw [HAD.out]
    replace d_1 := cy hb d_1
    replace d_2 := cy hb d_2
    replace p_0 := cy hb p_0
    replace p_1 := cy hb p_1
    replace p_2 := cy hb p_2
    replace p_3 := cy hb p_3
    replace a_0 := cy hb a_0
    replace a_1 := cy hb a_1
    replace a_2 := cy hb a_2
    replace H2 : Hid (FiRow u8 d2 d.safe) := H2.out.below hb
    replace RA : Hid (DkRow u8 (.agg #[.slice a1 an1 ac1, .slice a2 an2 ac2, .slice a3 (dn3 + 1) ac3]) (acD d x)) := RA.out.below hb
    replace HA2 : Hid (FiRow u8 a2 d.safe) := HA2.out.below hb
    replace zp : u1.heap.size + 1 < u8.heap.size := Nat.lt_of_lt_of_le zp hb.size
    replace zd : u1.heap.size < u8.heap.size := Nat.lt_of_lt_of_le zd hb.size
    replace za : u2.heap.size < u8.heap.size := Nat.lt_of_lt_of_le za hb.size
    replace K : Hid (Below w.heap.size w u8) := bchain K.out hb
    clear hb
    go_wp2_with fail
    refine (laws_sameFiles _ HA2.out H2.out HN.out HD.out.2.1).mono ?_
    rintro e u9 ⟨rfl, hb⟩
    rw [sameB_iff.2 rfl]
    replace d_1 := cy hb d_1
    replace d_2 := cy hb d_2
    replace p_0 := cy hb p_0
    replace p_1 := cy hb p_1
    replace p_2 := cy hb p_2
    replace p_3 := cy hb p_3
    replace a_0 := cy hb a_0
    replace a_1 := cy hb a_1
    replace a_2 := cy hb a_2
    replace H2 : Hid (FiRow u9 d2 d.safe) := H2.out.below hb
    replace RA : Hid (DkRow u9 (.agg #[.slice a1 an1 ac1, .slice a2 an2 ac2, .slice a3 (dn3 + 1) ac3]) (acD d x)) := RA.out.below hb
    replace HA2 : Hid (FiRow u9 a2 d.safe) := HA2.out.below hb
    replace zp : u1.heap.size + 1 < u9.heap.size := Nat.lt_of_lt_of_le zp hb.size
    replace zd : u1.heap.size < u9.heap.size := Nat.lt_of_lt_of_le zd hb.size
    replace za : u2.heap.size < u9.heap.size := Nat.lt_of_lt_of_le za hb.size
    replace K : Hid (Below w.heap.size w u9) := bchain K.out hb
    clear hb
    go_wp2_with fail
    go_ret
    exact ⟨rfl, K.out⟩
  · have hd := done_3 HDB.out HK0.out hk
    rw [HXB.out] at hd
    subst hd
    rw [hk] at p_0
    clear hk
    go_wp2_with fail
    refine (impl_DiskOk _ RA.out HAL.out).mono ?_
    rintro e u7 ⟨rfl, hb⟩
    rw [HAD.out]
    replace d_1 := cy hb d_1
    replace d_2 := cy hb d_2
    replace p_0 := cy hb p_0
    replace p_1 := cy hb p_1
    replace p_2 := cy hb p_2
    replace p_3 := cy hb p_3
    replace a_0 := cy hb a_0
    replace a_1 := cy hb a_1
    replace a_2 := cy hb a_2
    replace H2 : Hid (FiRow u7 d2 d.safe) := H2.out.below hb
    replace RA : Hid (DkRow u7 (.agg #[.slice a1 an1 ac1, .slice a2 an2 ac2, .slice a3 (dn3 + 1) ac3]) (acD d x)) := RA.out.below hb
    replace HA2 : Hid (FiRow u7 a2 d.safe) := HA2.out.below hb
    replace zp : u1.heap.size + 1 < u7.heap.size := Nat.lt_of_lt_of_le zp hb.size
    replace zd : u1.heap.size < u7.heap.size := Nat.lt_of_lt_of_le zd hb.size
    replace za : u2.heap.size < u7.heap.size := Nat.lt_of_lt_of_le za hb.size
    replace K : Hid (Below w.heap.size w u7) := bchain K.out hb
    clear hb
    go_wp2_with fail
    refine (laws_sameFiles _ HA2.out H2.out HN.out HD.out.2.1).mono ?_
    rintro e u8 ⟨rfl, hb⟩
    rw [sameB_iff.2 rfl]
    replace d_1 := cy hb d_1
    replace d_2 := cy hb d_2
    replace p_0 := cy hb p_0
    replace p_1 := cy hb p_1
    replace p_2 := cy hb p_2
    replace p_3 := cy hb p_3
    replace a_0 := cy hb a_0
    replace a_1 := cy hb a_1
    replace a_2 := cy hb a_2
    replace H2 : Hid (FiRow u8 d2 d.safe) := H2.out.below hb
    replace RA : Hid (DkRow u8 (.agg #[.slice a1 an1 ac1, .slice a2 an2 ac2, .slice a3 (dn3 + 1) ac3]) (acD d x)) := RA.out.below hb
    replace HA2 : Hid (FiRow u8 a2 d.safe) := HA2.out.below hb
    replace zp : u1.heap.size + 1 < u8.heap.size := Nat.lt_of_lt_of_le zp hb.size
    replace zd : u1.heap.size < u8.heap.size := Nat.lt_of_lt_of_le zd hb.size
    replace za : u2.heap.size < u8.heap.size := Nat.lt_of_lt_of_le za hb.size
    replace K : Hid (Below w.heap.size w u8) := bchain K.out hb
    clear hb
    go_wp2_with fail
    go_ret
    exact ⟨rfl, K.out⟩
end Go.Proofs.Ytanjlpgdmnapdaa
