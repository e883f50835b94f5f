import Derived.Test.YtanjlpgdmnapdaaRpA
namespace Go.Proofs.Ytanjlpgdmnapdaa
open Go.RowKit Go.Maps
set_option linter.unusedSimpArgs false
set_option linter.unusedVariables false

theorem rpOk_of {ops : List DP} {d : DK} : ∀ {m : Nat}, m ≤ ops.length → rpC ops d m = 0 → rpOk ops d m
  | 0, _, _ => fun j x hj => by omega
  | m + 1, hm, h => by
    rw [rpC] at h
    split at h
    · rename_i h0
      obtain ⟨x, hx⟩ := at_lt (L := ops) (t := m) rfl (by omega)
      rw [hx] at h
      exact rpOk_step (rpOk_of (by omega) h0) hx h
    · rename_i h0; exact absurd h h0
theorem rpD_len {d : DK} {s x : ByteArray} (hs : s.size ≤ 1048576) (hx : x.size ≤ 1048576) (hl : DkLil d) : (rpD d s x).live.length ≤ 1048576 ∧ (rpD d s x).safe.length ≤ 1048576 ∧ (rpD d s x).ops.length ≤ 1048576 := by
  by_cases hd : diskB d = true
  · by_cases h0 : rpK d s x = 0
    · rw [rpD, if_pos hd, if_pos h0]
      rw [rpK, if_pos hd] at h0
      have h1 := (rp_diskW hd hl (rpO_ok hs hx) _ (Nat.le_refl _) (rpOk_of (Nat.le_refl _) h0)).2
      exact ⟨h1.n1, h1.n2, h1.n3⟩
    · rw [rpD, if_pos hd, if_neg h0]; exact ⟨hl.n1, hl.n2, hl.n3⟩
  · rw [rpD, if_neg hd]; exact ⟨Nat.zero_le _, Nat.zero_le _, Nat.zero_le _⟩
theorem hasB_at {s : ByteArray} {L : List FI} {r : Int} (h : AtI s.data.toList L r) : (hasB s L = true → 0 ≤ r) ∧ (hasB s L = false → r = -1) := by
  rcases h with ⟨h1, h2⟩ | ⟨i, x, h1, _, h2⟩
  · refine ⟨fun e => ?_, fun _ => h1⟩
    rw [hasB, h2] at e; cases e
  · refine ⟨fun _ => by omega, fun e => ?_⟩
    rw [hasB, h2] at e; cases e
theorem DkHas.setBox3 {w : World} {B : Nat} {v a b c : Value} {d : DK} (h : DkHas w B v d) {g : Nat} {cs : Array Value} {r : Nat × Nat} (hb : w.heap[g]? = some (.cells cs 27 r)) : DkHas (((w.setCell ⟨g, 0, none⟩ a).setCell ⟨g, 1, none⟩ b).setCell ⟨g, 2, none⟩ c) B v d := by
  obtain ⟨c', h1⟩ := set_blk (o := 0) (x := a) hb
  obtain ⟨c'', h2⟩ := set_blk (o := 1) (x := b) h1
  exact ((h.setBox hb (by decide) (by decide) 0 a).setBox h1 (by decide) (by decide) 1 b).setBox h2 (by decide) (by decide) 2 c
set_option maxRecDepth 100000 in
set_option maxHeartbeats 16000000 in
theorem spec_Replace_no {v : Value} {d : DK} (s x : ByteArray) (w : World) (h : DkRow w v d) (hl : DkLil d) (hs : s.size ≤ 1048576) (hx : x.size ≤ 1048576) (hd : diskB d = false) :
    Calls Try.prog 25 #[v, .string s, .string x] w fun e w' => ∃ v', e = .returned (.tuple #[v', .int .i64 (rpK d s x)]) ∧ DkHas w' w.heap.size v' (rpD d s x) ∧ Below w.heap.size w w' := by
  have HR : Hid (DkRow w v d) := h
  have HL : Hid (DkLil d) := hl
  have HRR : Hid (diskB d = false) := hd
  have HK1 : Hid (rpK d s x = 1) := by show _ = _; rw [rpK, if_neg (by rw [hd]; simp)]
  have HD1 : Hid (rpD d s x = dk0) := by show _ = _; rw [rpD, if_neg (by rw [hd]; simp)]
  rw [HK1.out, HD1.out]
  obtain ⟨a1, a2, a3, ac1, ac2, ac3, an1, an2, an3, rfl⟩ := h.agg
  clear h hl hd
  go_enter Try.func25, Try.ntmps25
  go_wp2_with fail
  refine (spec_DiskOk _ (HR.out.below (by go_grown)) HL.out).mono ?_
  rintro e w1 ⟨rfl, hb⟩
  rw [HRR.out]
  have k0 := cy hb (b := w.heap.size) (o := 0) (x := .slice a1 an1 ac1) (by go_simp)
  have k1 := cy hb (b := w.heap.size) (o := 1) (x := .slice a2 an2 ac2) (by go_simp)
  have k2 := cy hb (b := w.heap.size) (o := 2) (x := .slice a3 an3 ac3) (by go_simp)
  have p0 := cy hb (b := w.heap.size + 1) (o := 0) (x := .slice none 0 0) (by go_simp)
  have p1 := cy hb (b := w.heap.size + 1) (o := 1) (x := .slice none 0 0) (by go_simp)
  have p2 := cy hb (b := w.heap.size + 1) (o := 2) (x := .slice none 0 0) (by go_simp)
  have pf : ∀ o, w1.frozen? ⟨w.heap.size + 1, o, none⟩ = false := fun o => by
    rw [hb.frozen (p := ⟨w.heap.size + 1, o, none⟩) (by simp)]
    go_simp
  have HB1 : Hid (Below w.heap.size w w1) := Below.trans (by go_grown) (hb.mono (by simp; omega))
  have s1 : w.heap.size + 1 < w1.heap.size := World.block_lt_of_cell? w1 ⟨w.heap.size + 1, 0, none⟩ p0
  have s0 : w.heap.size < w1.heap.size := by omega
  clear hb
  go_wp2_with fail
  refine bodyPost_ret (v := .tuple #[.agg #[.slice none 0 0, .slice none 0 0, .slice none 0 0], .int .i64 1]) ?_ rfl ⟨_, rfl, has_dk0, ?_⟩
  · simp (maxDischargeDepth := 9) [results, Try.results25, go_sem, *]
  · exact below_sa3 HB1.out (by omega) _ _ _
theorem box_cells {u : World} {g : Nat} {v1 v2 v3 x1 x2 x3 : Value} (c0 : u.cell? ⟨g, 0, none⟩ = some x1) (c1 : u.cell? ⟨g, 1, none⟩ = some x2) (c2 : u.cell? ⟨g, 2, none⟩ = some x3) : (((u.setCell ⟨g, 0, none⟩ v1).setCell ⟨g, 1, none⟩ v2).setCell ⟨g, 2, none⟩ v3).cell? ⟨g, 0, none⟩ = some v1 ∧
    (((u.setCell ⟨g, 0, none⟩ v1).setCell ⟨g, 1, none⟩ v2).setCell ⟨g, 2, none⟩ v3).cell? ⟨g, 1, none⟩ = some v2 ∧ (((u.setCell ⟨g, 0, none⟩ v1).setCell ⟨g, 1, none⟩ v2).setCell ⟨g, 2, none⟩ v3).cell? ⟨g, 2, none⟩ = some v3 := by
  refine ⟨?_, ?_, ?_⟩
  · rw [World.cell?_setCell_other _ _ _ _ (by intro e; cases e), World.cell?_setCell_other _ _ _ _ (by intro e; cases e)]; exact cell_blk c0 _
  · rw [World.cell?_setCell_other _ _ _ _ (by intro e; cases e)]
    exact cell_blk (x := x2) (by rw [World.cell?_setCell_other _ _ _ _ (by intro e; cases e)]; exact c1) _
  · exact cell_blk (x := x3) (by rw [World.cell?_setCell_other _ _ _ _ (by intro e; cases e), World.cell?_setCell_other _ _ _ _ (by intro e; cases e)]; exact c2) _
set_option maxRecDepth 100000 in
set_option maxHeartbeats 16000000 in
theorem spec_Replace_2 {v : Value} {d : DK} (s x : ByteArray) (w : World) (h : DkRow w v d) (hl : DkLil d) (hs : s.size ≤ 1048576) (hx : x.size ≤ 1048576) (hd : diskB d = true) (hb0 : hasB (newS s) d.live = false) :
    Calls Try.prog 25 #[v, .string s, .string x] w fun e w' => ∃ v', e = .returned (.tuple #[v', .int .i64 (rpK d s x)]) ∧ DkHas w' w.heap.size v' (rpD d s x) ∧ Below w.heap.size w w' := by
  have HR : Hid (DkRow w v d) := h
  have HL : Hid (DkLil d) := hl
  have HRR : Hid (diskB d = true) := hd
  have HOO : Hid (∀ y ∈ [rpB s x, rpR s], dpOk y ∧ y.d.size ≤ 1048576) := rpO_ok (b := false) hs hx
  have HKK : Hid (rpK d s x = rpC [rpB s x, rpR s] d 2) := by show _ = _; rw [rpK, hb0, if_pos hd]; rfl
  have HDD : Hid (rpD d s x = if rpK d s x = 0 then rpN [rpB s x, rpR s] d 2 else d) := by show _ = _; rw [rpD, hb0, if_pos hd]; rfl
  have HBB : Hid (hasB (newS s) d.live = false) := hb0
  obtain ⟨OL, HOL⟩ : ∃ OL, Hid ([rpB s x, rpR s] = OL) := ⟨_, rfl⟩
  have HOL2 : Hid (OL.length = 2) := by rw [← HOL.out]; exact rfl
  rw [HOL.out] at HOO HKK HDD
  obtain ⟨a1, a2, a3, ac1, ac2, ac3, an1, an2, an3, rfl⟩ := h.agg
  obtain ⟨A1, c1, A2, c2, A3, c3, ee, r1, r2, r3, z1, z2, z3⟩ := h
  have HR1 : Hid (FiRow w a1 d.live) := by cases ee; exact r1
  have HN1 : Hid (d.live.length = an1) := by cases ee; rfl
  clear ee r1 r2 r3 z1 z2 z3
  have hsz : s.size + 4 ≤ 9223372036854775807 := by omega
  have HAP : Hid (s ++ (⟨#[46, 110, 101, 119]⟩ : ByteArray) = newS s) := rfl
  clear hl hb0 hd
  go_enter Try.func25, Try.ntmps25
  go_wp2_with fail
  refine (spec_DiskOk _ (HR.out.below (by go_grown)) HL.out).mono ?_
  rintro e w1 ⟨rfl, hb⟩
  rw [HRR.out]
  have k0 := cy hb (b := w.heap.size) (o := 0) (x := .slice a1 an1 ac1) (by go_simp)
  have k1 := cy hb (b := w.heap.size) (o := 1) (x := .slice a2 an2 ac2) (by go_simp)
  have k2 := cy hb (b := w.heap.size) (o := 2) (x := .slice a3 an3 ac3) (by go_simp)
  have p0 := cy hb (b := w.heap.size + 1) (o := 0) (x := .slice none 0 0) (by go_simp)
  have p1 := cy hb (b := w.heap.size + 1) (o := 1) (x := .slice none 0 0) (by go_simp)
  have p2 := cy hb (b := w.heap.size + 1) (o := 2) (x := .slice none 0 0) (by go_simp)
  have pf : ∀ o, w1.frozen? ⟨w.heap.size + 1, o, none⟩ = false := fun o => by
    rw [hb.frozen (p := ⟨w.heap.size + 1, o, none⟩) (by simp)]
    go_simp
  have HB1 : Hid (Below w.heap.size w w1) := Below.trans (by go_grown) (hb.mono (by simp; omega))
  have s1 : w.heap.size + 1 < w1.heap.size := World.block_lt_of_cell? w1 ⟨w.heap.size + 1, 0, none⟩ p0
  have s0 : w.heap.size < w1.heap.size := by omega
  clear hb
  go_wp2_with fail
  try rw [HAP.out]
  refine (spec_l13At (newS s) _ ((HR1.out.below HB1.out).below (by go_grown)) HN1.out).mono ?_
  rintro e wq ⟨r, rfl, hAt, hw⟩
  have hr0 := (hasB_at hAt).2 HBB.out
  clear hAt
  obtain ⟨w2, HW2⟩ : ∃ w2, Hid ((w1.alloc (.cells #[.slice a1 an1 ac1, .slice a2 an2 ac2, .slice a3 an3 ac3] 27)) = w2) := ⟨_, rfl⟩
  rw [HW2.out] at hw
  subst hw
  have hb : Below w1.heap.size w1 wq := by rw [← HW2.out]; exact (Below.refl _ _).alloc (Nat.le_refl _) _
  have g0 : wq.cell? ⟨w1.heap.size, 0, none⟩ = some (.slice a1 an1 ac1) := by rw [← HW2.out]; go_simp
  have g1 : wq.cell? ⟨w1.heap.size, 1, none⟩ = some (.slice a2 an2 ac2) := by rw [← HW2.out]; go_simp
  have g2 : wq.cell? ⟨w1.heap.size, 2, none⟩ = some (.slice a3 an3 ac3) := by rw [← HW2.out]; go_simp
  have gf : ∀ o, wq.frozen? ⟨w1.heap.size, o, none⟩ = false := fun o => by rw [← HW2.out]; go_simp
  have HGB : Hid (∃ c r, wq.heap[w1.heap.size]? = some (.cells c 27 r)) := by rw [← HW2.out]; exact ⟨_, _, blk_at rfl⟩
  replace k0 := cy hb k0
  replace k1 := cy hb k1
  replace k2 := cy hb k2
  replace p0 := cy hb p0
  replace p1 := cy hb p1
  replace p2 := cy hb p2
  replace pf : ∀ o, wq.frozen? ⟨w.heap.size + 1, o, none⟩ = false := fun o => by
    rw [hb.frozen (p := ⟨w.heap.size + 1, o, none⟩) (by omega)]
    exact pf o
  have HBQ : Hid (Below w.heap.size w wq) := bchain HB1.out hb
  have HBX : Hid (Below w1.heap.size w1 wq) := hb
  have sq := hb.size
  have t1 : w.heap.size + 1 < wq.heap.size := by omega
  have t0 : w.heap.size < wq.heap.size := by omega
  have tg : w1.heap.size < wq.heap.size := World.block_lt_of_cell? wq ⟨w1.heap.size, 0, none⟩ g0
  have HOK0 : Hid (rpOk OL d 0) := fun j y hj => by omega
  have HRW0 : Hid (DkRow wq (.agg #[.slice a1 an1 ac1, .slice a2 an2 ac2, .slice a3 an3 ac3]) (rpN OL d 0)) := HR.out.below HBQ.out
  clear hb HW2
  have HXT0 : Hid (OL[0]? = some (rpB s x)) := by rw [← HOL.out]; rfl
  have HXO0 : Hid (dpOk (rpB s x) ∧ (rpB s x).d.size ≤ 1048576) := HOO.out _ (List.mem_of_getElem? HXT0.out)
  obtain ⟨dm0, HDM0⟩ : ∃ dm, Hid (rpN OL d 0 = dm) := ⟨_, rfl⟩
  have HRD0 : Hid (diskB dm0 = true ∧ DkLil dm0) := by rw [← HDM0.out]; exact rp_diskW HRR.out HL.out HOO.out 0 (by rw [HOL2.out]; omega) HOK0.out
  rw [HDM0.out] at HRW0
  obtain ⟨sk0, HSK0⟩ : ∃ sk, Hid (doK dm0 (rpB s x) = sk) := ⟨_, rfl⟩
  go_wp2_with fail
  refine (spec_l13ActW (rpB s x) _ (HRW0.out.below (by go_grown)) HRD0.out.2 HXO0.out.1 HXO0.out.2 HRD0.out.1).mono ?_
  rintro e u0 ⟨vn, rfl, ho, hb⟩
  rw [HSK0.out]
  have hbb : Below wq.heap.size wq u0 := Below.trans (by go_grown) (hb.mono (by simp))
  obtain ⟨v1, v2, v3, rfl, o1, o2, o3⟩ := ho
  obtain ⟨D01, Dc01, rfl, y1, y2⟩ := own_shape o1
  obtain ⟨D02, Dc02, rfl, y3, y4⟩ := own_shape o2
  obtain ⟨D03, Dc03, rfl, y5, y6⟩ := own_shape o3
  have HHN0 : Hid (DkHas u0 w1.heap.size (.agg #[.slice D01 (acD dm0 (rpB s x)).live.length Dc01, .slice D02 (acD dm0 (rpB s x)).safe.length Dc02, .slice D03 (acD dm0 (rpB s x)).ops.length Dc03]) (acD dm0 (rpB s x))) := ⟨_, _, _, rfl, own_mono o1 (by first | omega | (simp; omega)), own_mono o2 (by first | omega | (simp; omega)), own_mono o3 (by first | omega | (simp; omega))⟩
  obtain ⟨Dn01, HDn01⟩ : ∃ n, Hid ((acD dm0 (rpB s x)).live.length = n) := ⟨_, rfl⟩
  obtain ⟨Dn02, HDn02⟩ : ∃ n, Hid ((acD dm0 (rpB s x)).safe.length = n) := ⟨_, rfl⟩
  obtain ⟨Dn03, HDn03⟩ : ∃ n, Hid ((acD dm0 (rpB s x)).ops.length = n) := ⟨_, rfl⟩
  rw [HDn01.out, HDn02.out, HDn03.out] at HHN0
  rw [HDn01.out, HDn02.out, HDn03.out]
  replace k0 := cy hbb k0
  replace k1 := cy hbb k1
  replace k2 := cy hbb k2
  replace p0 := cy hbb p0
  replace p1 := cy hbb p1
  replace p2 := cy hbb p2
  replace pf : ∀ o, u0.frozen? ⟨w.heap.size + 1, o, none⟩ = false := fun o => by
    rw [hbb.frozen (p := ⟨w.heap.size + 1, o, none⟩) (by omega)]
    exact pf o
  replace g0 := cy hbb g0
  replace g1 := cy hbb g1
  replace g2 := cy hbb g2
  replace gf : ∀ o, u0.frozen? ⟨w1.heap.size, o, none⟩ = false := fun o => by
    rw [hbb.frozen (p := ⟨w1.heap.size, o, none⟩) (by omega)]
    exact gf o
  replace HGB : Hid (∃ c r, u0.heap[w1.heap.size]? = some (.cells c 27 r)) := by
    obtain ⟨c, r, h⟩ := HGB.out
    exact ⟨c, r, (hbb.block _ (by omega)).trans h⟩
  have HBu0 : Hid (Below w1.heap.size w1 u0) := bchain HBX.out hbb
  have su0 := hbb.size
  have t1u0 : w.heap.size + 1 < u0.heap.size := by omega
  have t0u0 : w.heap.size < u0.heap.size := by omega
  have tgu0 : w1.heap.size < u0.heap.size := by omega
  clear hb hbb o1 o2 o3 y1 y2 y3 y4 y5 y6
  by_cases hk0 : sk0 ≠ 0
  · have hq1 : (sk0 == 0) = false := by simpa using hk0
    have hq2 : (sk0 != 0) = true := by simp [hk0]
    have HKE : Hid (rpK d s x = sk0) := by show _ = _; rw [HKK.out, rpC_end HOK0.out HXT0.out (by rw [HDM0.out, HSK0.out]; exact hk0) HOL2.out, HDM0.out, HSK0.out]
    have HDE : Hid (rpD d s x = d) := by show _ = _; rw [HDD.out, HKE.out, if_neg hk0]
    obtain ⟨q9, HQ9⟩ : ∃ q9, Hid ((((u0.setCell ⟨w1.heap.size, 0, none⟩ (.slice D01 Dn01 Dc01)).setCell ⟨w1.heap.size, 1, none⟩ (.slice D02 Dn02 Dc02)).setCell ⟨w1.heap.size, 2, none⟩ (.slice D03 Dn03 Dc03)) = q9) := ⟨_, rfl⟩
    have HB9 : Hid (Below w.heap.size w q9) := by rw [← HQ9.out]; exact below_sa3 (bchain HB1.out HBu0.out) (by omega) _ _ _
    have HX9 : Hid (Below w1.heap.size w1 q9) := by rw [← HQ9.out]; exact below_sa3 HBu0.out (Nat.le_refl _) _ _ _
    go_wp2_with fail
    try rw [HQ9.out]
    refine (spec_l13Copy _ (HR.out.below HB9.out) HL.out).mono ?_
    rintro e f1 ⟨v1, v2, v3, rfl, ⟨o1, o2, o3⟩, hb⟩
    obtain ⟨M1, q1, rfl, y1, y2⟩ := own_shape o1
    obtain ⟨M2, q2, rfl, y3, y4⟩ := own_shape o2
    obtain ⟨M3, q3, rfl, y5, y6⟩ := own_shape o3
    have z9 : w1.heap.size ≤ q9.heap.size := HX9.out.size
    have HH : Hid (DkHas f1 (w.heap.size + 2) (.agg #[.slice M1 d.live.length q1, .slice M2 d.safe.length q2, .slice M3 d.ops.length q3]) d) := ⟨_, _, _, rfl, own_mono o1 (by omega), own_mono o2 (by omega), own_mono o3 (by omega)⟩
    have HBF : Hid (Below w.heap.size w f1) := bchain HB9.out hb
    have j0 : f1.cell? ⟨w.heap.size + 1, 0, none⟩ = some (.slice none 0 0) := cy hb (by rw [← HQ9.out]; go_simp)
    have j1 : f1.cell? ⟨w.heap.size + 1, 1, none⟩ = some (.slice none 0 0) := cy hb (by rw [← HQ9.out]; go_simp)
    have j2 : f1.cell? ⟨w.heap.size + 1, 2, none⟩ = some (.slice none 0 0) := cy hb (by rw [← HQ9.out]; go_simp)
    have jf : ∀ o, f1.frozen? ⟨w.heap.size + 1, o, none⟩ = false := fun o => by
      rw [hb.frozen (p := ⟨w.heap.size + 1, o, none⟩) (by show w.heap.size + 1 < _; omega), ← HQ9.out]
      go_simp
    have jl : w.heap.size + 1 < f1.heap.size := World.block_lt_of_cell? f1 ⟨w.heap.size + 1, 0, none⟩ j0
    clear hb o1 o2 o3 y1 y2 y3 y4 y5 y6
    go_wp2_with fail
    refine bodyPost_ret (v := .tuple #[.agg #[.slice M1 d.live.length q1, .slice M2 d.safe.length q2, .slice M3 d.ops.length q3], .int .i64 sk0]) ?_ rfl ⟨_, by rw [HKE.out], ?_, ?_⟩
    · simp (maxDischargeDepth := 9) [results, Try.results25, go_sem, *]
    · rw [HDE.out]; exact (((HH.out.set (by omega) _ _).set (by omega) _ _).set (by omega) _ _).mono (by omega)
    · exact below_sa3 HBF.out (by omega) _ _ _
  have hz0 : sk0 = 0 := Classical.not_not.1 hk0
  have HOK1 : Hid (rpOk OL d 1) := rpOk_step HOK0.out HXT0.out (by rw [HDM0.out, HSK0.out]; exact hz0)
  have HAC0 : Hid (rpN OL d 1 = acD dm0 (rpB s x)) := by show _ = _; rw [rpN_step HXT0.out, HDM0.out]
  have HNW := HHN0.out.setBox3 (a := .slice D01 Dn01 Dc01) (b := .slice D02 Dn02 Dc02) (c := .slice D03 Dn03 Dc03) (HGB.out.choose_spec.choose_spec)
  have HC3 := box_cells (v1 := .slice D01 Dn01 Dc01) (v2 := .slice D02 Dn02 Dc02) (v3 := .slice D03 Dn03 Dc03) g0 g1 g2
  subst hz0
  clear hk0
  go_wp2_with fail
  obtain ⟨x0, HQx0⟩ : ∃ q9, Hid ((((u0.setCell ⟨w1.heap.size, 0, none⟩ (.slice D01 Dn01 Dc01)).setCell ⟨w1.heap.size, 1, none⟩ (.slice D02 Dn02 Dc02)).setCell ⟨w1.heap.size, 2, none⟩ (.slice D03 Dn03 Dc03)) = q9) := ⟨_, rfl⟩
  rw [HQx0.out] at HNW HC3 ⊢
  have HBx0 : Hid (Below w1.heap.size w1 x0) := by rw [← HQx0.out]; exact below_sa3 HBu0.out (Nat.le_refl _) _ _ _
  have HHX0 : Hid (DkHas x0 w1.heap.size (.agg #[.slice D01 Dn01 Dc01, .slice D02 Dn02 Dc02, .slice D03 Dn03 Dc03]) (rpN OL d 1)) := by rw [HAC0.out]; exact HNW
  have HRW1 : Hid (DkRow x0 (.agg #[.slice D01 Dn01 Dc01, .slice D02 Dn02 Dc02, .slice D03 Dn03 Dc03]) (rpN OL d 1)) := HHX0.out.row
  replace k0 : x0.cell? ⟨w.heap.size, 0, none⟩ = some (.slice a1 an1 ac1) := by rw [← HQx0.out]; go_simp
  replace k1 : x0.cell? ⟨w.heap.size, 1, none⟩ = some (.slice a2 an2 ac2) := by rw [← HQx0.out]; go_simp
  replace k2 : x0.cell? ⟨w.heap.size, 2, none⟩ = some (.slice a3 an3 ac3) := by rw [← HQx0.out]; go_simp
  replace p0 : x0.cell? ⟨w.heap.size + 1, 0, none⟩ = some (.slice none 0 0) := by rw [← HQx0.out]; go_simp
  replace p1 : x0.cell? ⟨w.heap.size + 1, 1, none⟩ = some (.slice none 0 0) := by rw [← HQx0.out]; go_simp
  replace p2 : x0.cell? ⟨w.heap.size + 1, 2, none⟩ = some (.slice none 0 0) := by rw [← HQx0.out]; go_simp
  replace pf : ∀ o, x0.frozen? ⟨w.heap.size + 1, o, none⟩ = false := fun o => by rw [← HQx0.out]; go_simp
  replace gf : ∀ o, x0.frozen? ⟨w1.heap.size, o, none⟩ = false := fun o => by rw [← HQx0.out]; go_simp
  replace HGB : Hid (∃ c r, x0.heap[w1.heap.size]? = some (.cells c 27 r)) := by
    rw [← HQx0.out]
    obtain ⟨c, r, h⟩ := HGB.out
    obtain ⟨c', h1⟩ := set_blk (o := 0) (x := .slice D01 Dn01 Dc01) h
    obtain ⟨c'', h2⟩ := set_blk (o := 1) (x := .slice D02 Dn02 Dc02) h1
    obtain ⟨c3, h3⟩ := set_blk (o := 2) (x := .slice D03 Dn03 Dc03) h2
    exact ⟨_, _, h3⟩
  replace g0 := HC3.1
  replace g1 := HC3.2.1
  replace g2 := HC3.2.2
  have tgx0 : w1.heap.size < x0.heap.size := World.block_lt_of_cell? x0 ⟨w1.heap.size, 0, none⟩ g0
  have t1x0 : w.heap.size + 1 < x0.heap.size := by omega
  have t0x0 : w.heap.size < x0.heap.size := by omega
  replace HBX : Hid (Below w1.heap.size w1 x0) := HBx0.out
  clear HNW HC3
  have HXT1 : Hid (OL[1]? = some (rpR s)) := by rw [← HOL.out]; rfl
  have HXO1 : Hid (dpOk (rpR s) ∧ (rpR s).d.size ≤ 1048576) := HOO.out _ (List.mem_of_getElem? HXT1.out)
  obtain ⟨dm1, HDM1⟩ : ∃ dm, Hid (rpN OL d 1 = dm) := ⟨_, rfl⟩
  have HRD1 : Hid (diskB dm1 = true ∧ DkLil dm1) := by rw [← HDM1.out]; exact rp_diskW HRR.out HL.out HOO.out 1 (by rw [HOL2.out]; omega) HOK1.out
  rw [HDM1.out] at HRW1
  obtain ⟨sk1, HSK1⟩ : ∃ sk, Hid (doK dm1 (rpR s) = sk) := ⟨_, rfl⟩
  refine (spec_l13ActW (rpR s) _ (HRW1.out.below (by go_grown)) HRD1.out.2 HXO1.out.1 HXO1.out.2 HRD1.out.1).mono ?_
  rintro e u1 ⟨vn, rfl, ho, hb⟩
  rw [HSK1.out]
  have hbb : Below x0.heap.size x0 u1 := Below.trans (by go_grown) (hb.mono (by simp))
  obtain ⟨v1, v2, v3, rfl, o1, o2, o3⟩ := ho
  obtain ⟨D11, Dc11, rfl, y1, y2⟩ := own_shape o1
  obtain ⟨D12, Dc12, rfl, y3, y4⟩ := own_shape o2
  obtain ⟨D13, Dc13, rfl, y5, y6⟩ := own_shape o3
  have HHN1 : Hid (DkHas u1 w1.heap.size (.agg #[.slice D11 (acD dm1 (rpR s)).live.length Dc11, .slice D12 (acD dm1 (rpR s)).safe.length Dc12, .slice D13 (acD dm1 (rpR s)).ops.length Dc13]) (acD dm1 (rpR s))) := ⟨_, _, _, rfl, own_mono o1 (by first | omega | (simp; omega)), own_mono o2 (by first | omega | (simp; omega)), own_mono o3 (by first | omega | (simp; omega))⟩
  obtain ⟨Dn11, HDn11⟩ : ∃ n, Hid ((acD dm1 (rpR s)).live.length = n) := ⟨_, rfl⟩
  obtain ⟨Dn12, HDn12⟩ : ∃ n, Hid ((acD dm1 (rpR s)).safe.length = n) := ⟨_, rfl⟩
  obtain ⟨Dn13, HDn13⟩ : ∃ n, Hid ((acD dm1 (rpR s)).ops.length = n) := ⟨_, rfl⟩
  rw [HDn11.out, HDn12.out, HDn13.out] at HHN1
  rw [HDn11.out, HDn12.out, HDn13.out]
  replace k0 := cy hbb k0
  replace k1 := cy hbb k1
  replace k2 := cy hbb k2
  replace p0 := cy hbb p0
  replace p1 := cy hbb p1
  replace p2 := cy hbb p2
  replace pf : ∀ o, u1.frozen? ⟨w.heap.size + 1, o, none⟩ = false := fun o => by
    rw [hbb.frozen (p := ⟨w.heap.size + 1, o, none⟩) (by omega)]
    exact pf o
  replace g0 := cy hbb g0
  replace g1 := cy hbb g1
  replace g2 := cy hbb g2
  replace gf : ∀ o, u1.frozen? ⟨w1.heap.size, o, none⟩ = false := fun o => by
    rw [hbb.frozen (p := ⟨w1.heap.size, o, none⟩) (by omega)]
    exact gf o
  replace HGB : Hid (∃ c r, u1.heap[w1.heap.size]? = some (.cells c 27 r)) := by
    obtain ⟨c, r, h⟩ := HGB.out
    exact ⟨c, r, (hbb.block _ (by omega)).trans h⟩
  have HBu1 : Hid (Below w1.heap.size w1 u1) := bchain HBX.out hbb
  have su1 := hbb.size
  have t1u1 : w.heap.size + 1 < u1.heap.size := by omega
  have t0u1 : w.heap.size < u1.heap.size := by omega
  have tgu1 : w1.heap.size < u1.heap.size := by omega
  clear hb hbb o1 o2 o3 y1 y2 y3 y4 y5 y6
  by_cases hk1 : sk1 ≠ 0
  · have hq1 : (sk1 == 0) = false := by simpa using hk1
    have hq2 : (sk1 != 0) = true := by simp [hk1]
    have HKE : Hid (rpK d s x = sk1) := by show _ = _; rw [HKK.out, rpC_end HOK1.out HXT1.out (by rw [HDM1.out, HSK1.out]; exact hk1) HOL2.out, HDM1.out, HSK1.out]
    have HDE : Hid (rpD d s x = d) := by show _ = _; rw [HDD.out, HKE.out, if_neg hk1]
    obtain ⟨q9, HQ9⟩ : ∃ q9, Hid ((((u1.setCell ⟨w1.heap.size, 0, none⟩ (.slice D11 Dn11 Dc11)).setCell ⟨w1.heap.size, 1, none⟩ (.slice D12 Dn12 Dc12)).setCell ⟨w1.heap.size, 2, none⟩ (.slice D13 Dn13 Dc13)) = q9) := ⟨_, rfl⟩
    have HB9 : Hid (Below w.heap.size w q9) := by rw [← HQ9.out]; exact below_sa3 (bchain HB1.out HBu1.out) (by omega) _ _ _
    have HX9 : Hid (Below w1.heap.size w1 q9) := by rw [← HQ9.out]; exact below_sa3 HBu1.out (Nat.le_refl _) _ _ _
    go_wp2_with fail
    try rw [HQ9.out]
    refine (spec_l13Copy _ (HR.out.below HB9.out) HL.out).mono ?_
    rintro e f1 ⟨v1, v2, v3, rfl, ⟨o1, o2, o3⟩, hb⟩
    obtain ⟨M1, q1, rfl, y1, y2⟩ := own_shape o1
    obtain ⟨M2, q2, rfl, y3, y4⟩ := own_shape o2
    obtain ⟨M3, q3, rfl, y5, y6⟩ := own_shape o3
    have z9 : w1.heap.size ≤ q9.heap.size := HX9.out.size
    have HH : Hid (DkHas f1 (w.heap.size + 2) (.agg #[.slice M1 d.live.length q1, .slice M2 d.safe.length q2, .slice M3 d.ops.length q3]) d) := ⟨_, _, _, rfl, own_mono o1 (by omega), own_mono o2 (by omega), own_mono o3 (by omega)⟩
    have HBF : Hid (Below w.heap.size w f1) := bchain HB9.out hb
    have j0 : f1.cell? ⟨w.heap.size + 1, 0, none⟩ = some (.slice none 0 0) := cy hb (by rw [← HQ9.out]; go_simp)
    have j1 : f1.cell? ⟨w.heap.size + 1, 1, none⟩ = some (.slice none 0 0) := cy hb (by rw [← HQ9.out]; go_simp)
    have j2 : f1.cell? ⟨w.heap.size + 1, 2, none⟩ = some (.slice none 0 0) := cy hb (by rw [← HQ9.out]; go_simp)
    have jf : ∀ o, f1.frozen? ⟨w.heap.size + 1, o, none⟩ = false := fun o => by
      rw [hb.frozen (p := ⟨w.heap.size + 1, o, none⟩) (by show w.heap.size + 1 < _; omega), ← HQ9.out]
      go_simp
    have jl : w.heap.size + 1 < f1.heap.size := World.block_lt_of_cell? f1 ⟨w.heap.size + 1, 0, none⟩ j0
    clear hb o1 o2 o3 y1 y2 y3 y4 y5 y6
    go_wp2_with fail
    refine bodyPost_ret (v := .tuple #[.agg #[.slice M1 d.live.length q1, .slice M2 d.safe.length q2, .slice M3 d.ops.length q3], .int .i64 sk1]) ?_ rfl ⟨_, by rw [HKE.out], ?_, ?_⟩
    · simp (maxDischargeDepth := 9) [results, Try.results25, go_sem, *]
    · rw [HDE.out]; exact (((HH.out.set (by omega) _ _).set (by omega) _ _).set (by omega) _ _).mono (by omega)
    · exact below_sa3 HBF.out (by omega) _ _ _
  have hz1 : sk1 = 0 := Classical.not_not.1 hk1
  have HOK2 : Hid (rpOk OL d 2) := rpOk_step HOK1.out HXT1.out (by rw [HDM1.out, HSK1.out]; exact hz1)
  have HAC1 : Hid (rpN OL d 2 = acD dm1 (rpR s)) := by show _ = _; rw [rpN_step HXT1.out, HDM1.out]
  have HNW := HHN1.out.setBox3 (a := .slice D11 Dn11 Dc11) (b := .slice D12 Dn12 Dc12) (c := .slice D13 Dn13 Dc13) (HGB.out.choose_spec.choose_spec)
  have HC3 := box_cells (v1 := .slice D11 Dn11 Dc11) (v2 := .slice D12 Dn12 Dc12) (v3 := .slice D13 Dn13 Dc13) g0 g1 g2
  subst hz1
  clear hk1
  go_wp2_with fail
  obtain ⟨x1, HQx1⟩ : ∃ q9, Hid ((((u1.setCell ⟨w1.heap.size, 0, none⟩ (.slice D11 Dn11 Dc11)).setCell ⟨w1.heap.size, 1, none⟩ (.slice D12 Dn12 Dc12)).setCell ⟨w1.heap.size, 2, none⟩ (.slice D13 Dn13 Dc13)) = q9) := ⟨_, rfl⟩
  rw [HQx1.out] at HNW HC3 ⊢
  have HBx1 : Hid (Below w1.heap.size w1 x1) := by rw [← HQx1.out]; exact below_sa3 HBu1.out (Nat.le_refl _) _ _ _
  have HHX1 : Hid (DkHas x1 w1.heap.size (.agg #[.slice D11 Dn11 Dc11, .slice D12 Dn12 Dc12, .slice D13 Dn13 Dc13]) (rpN OL d 2)) := by rw [HAC1.out]; exact HNW
  have HRW2 : Hid (DkRow x1 (.agg #[.slice D11 Dn11 Dc11, .slice D12 Dn12 Dc12, .slice D13 Dn13 Dc13]) (rpN OL d 2)) := HHX1.out.row
  replace k0 : x1.cell? ⟨w.heap.size, 0, none⟩ = some (.slice a1 an1 ac1) := by rw [← HQx1.out]; go_simp
  replace k1 : x1.cell? ⟨w.heap.size, 1, none⟩ = some (.slice a2 an2 ac2) := by rw [← HQx1.out]; go_simp
  replace k2 : x1.cell? ⟨w.heap.size, 2, none⟩ = some (.slice a3 an3 ac3) := by rw [← HQx1.out]; go_simp
  replace p0 : x1.cell? ⟨w.heap.size + 1, 0, none⟩ = some (.slice none 0 0) := by rw [← HQx1.out]; go_simp
  replace p1 : x1.cell? ⟨w.heap.size + 1, 1, none⟩ = some (.slice none 0 0) := by rw [← HQx1.out]; go_simp
  replace p2 : x1.cell? ⟨w.heap.size + 1, 2, none⟩ = some (.slice none 0 0) := by rw [← HQx1.out]; go_simp
  replace pf : ∀ o, x1.frozen? ⟨w.heap.size + 1, o, none⟩ = false := fun o => by rw [← HQx1.out]; go_simp
  replace gf : ∀ o, x1.frozen? ⟨w1.heap.size, o, none⟩ = false := fun o => by rw [← HQx1.out]; go_simp
  replace HGB : Hid (∃ c r, x1.heap[w1.heap.size]? = some (.cells c 27 r)) := by
    rw [← HQx1.out]
    obtain ⟨c, r, h⟩ := HGB.out
    obtain ⟨c', h1⟩ := set_blk (o := 0) (x := .slice D11 Dn11 Dc11) h
    obtain ⟨c'', h2⟩ := set_blk (o := 1) (x := .slice D12 Dn12 Dc12) h1
    obtain ⟨c3, h3⟩ := set_blk (o := 2) (x := .slice D13 Dn13 Dc13) h2
    exact ⟨_, _, h3⟩
  replace g0 := HC3.1
  replace g1 := HC3.2.1
  replace g2 := HC3.2.2
  have tgx1 : w1.heap.size < x1.heap.size := World.block_lt_of_cell? x1 ⟨w1.heap.size, 0, none⟩ g0
  have t1x1 : w.heap.size + 1 < x1.heap.size := by omega
  have t0x1 : w.heap.size < x1.heap.size := by omega
  replace HBX : Hid (Below w1.heap.size w1 x1) := HBx1.out
  clear HNW HC3
  have HK0 : Hid (rpK d s x = 0) := by show _ = _; rw [HKK.out]; exact rpC_ok HOK2.out
  have HD0 : Hid (rpD d s x = rpN OL d 2) := by show _ = _; rw [HDD.out, if_pos HK0.out]
  have HDL : Hid (DkLil (rpN OL d 2)) := (rp_diskW HRR.out HL.out HOO.out 2 (by rw [HOL2.out]; omega) HOK2.out).2
  obtain ⟨dz, HDZ⟩ : ∃ dz, Hid (rpN OL d 2 = dz) := ⟨_, rfl⟩
  rw [HDZ.out] at HRW2 HDL
  refine (spec_l13Copy _ HRW2.out HDL.out).mono ?_
  rintro e f1 ⟨v1, v2, v3, rfl, ⟨o1, o2, o3⟩, hb⟩
  obtain ⟨M1, q1, rfl, y1, y2⟩ := own_shape o1
  obtain ⟨M2, q2, rfl, y3, y4⟩ := own_shape o2
  obtain ⟨M3, q3, rfl, y5, y6⟩ := own_shape o3
  have HH : Hid (DkHas f1 (w.heap.size + 2) (.agg #[.slice M1 dz.live.length q1, .slice M2 dz.safe.length q2, .slice M3 dz.ops.length q3]) dz) := ⟨_, _, _, rfl, own_mono o1 (by omega), own_mono o2 (by omega), own_mono o3 (by omega)⟩
  have HBF : Hid (Below w.heap.size w f1) := bchain (bchain HB1.out HBX.out) hb
  have j0 := cy hb p0
  have j1 := cy hb p1
  have j2 := cy hb p2
  have jf : ∀ o, f1.frozen? ⟨w.heap.size + 1, o, none⟩ = false := fun o => by
    rw [hb.frozen (p := ⟨w.heap.size + 1, o, none⟩) (by show w.heap.size + 1 < _; omega)]
    exact pf o
  have jl : w.heap.size + 1 < f1.heap.size := World.block_lt_of_cell? f1 ⟨w.heap.size + 1, 0, none⟩ j0
  clear hb o1 o2 o3 y1 y2 y3 y4 y5 y6
  go_wp2_with fail
  refine bodyPost_ret (v := .tuple #[.agg #[.slice M1 dz.live.length q1, .slice M2 dz.safe.length q2, .slice M3 dz.ops.length q3], .int .i64 0]) ?_ rfl ⟨_, by rw [HK0.out], ?_, ?_⟩
  · simp (maxDischargeDepth := 9) [results, Try.results25, go_sem, *]
  · rw [HD0.out, HDZ.out]; exact (((HH.out.set (by omega) _ _).set (by omega) _ _).set (by omega) _ _).mono (by omega)
  · exact below_sa3 HBF.out (by omega) _ _ _
set_option maxRecDepth 100000 in
set_option maxHeartbeats 16000000 in
theorem spec_Replace_3 {v : Value} {d : DK} (s x : ByteArray) (w : World) (h : DkRow w v d) (hl : DkLil d) (hs : s.size ≤ 1048576) (hx : x.size ≤ 1048576) (hd : diskB d = true) (hb0 : hasB (newS s) d.live = true) :
    Calls Try.prog 25 #[v, .string s, .string x] w fun e w' => ∃ v', e = .returned (.tuple #[v', .int .i64 (rpK d s x)]) ∧ DkHas w' w.heap.size v' (rpD d s x) ∧ Below w.heap.size w w' := by
  have HR : Hid (DkRow w v d) := h
  have HL : Hid (DkLil d) := hl
  have HRR : Hid (diskB d = true) := hd
  have HOO : Hid (∀ y ∈ [rpA s, rpB s x, rpR s], dpOk y ∧ y.d.size ≤ 1048576) := rpO_ok (b := true) hs hx
  have HKK : Hid (rpK d s x = rpC [rpA s, rpB s x, rpR s] d 3) := by show _ = _; rw [rpK, hb0, if_pos hd]; rfl
  have HDD : Hid (rpD d s x = if rpK d s x = 0 then rpN [rpA s, rpB s x, rpR s] d 3 else d) := by show _ = _; rw [rpD, hb0, if_pos hd]; rfl
  have HBB : Hid (hasB (newS s) d.live = true) := hb0
  obtain ⟨OL, HOL⟩ : ∃ OL, Hid ([rpA s, rpB s x, rpR s] = OL) := ⟨_, rfl⟩
  have HOL2 : Hid (OL.length = 3) := by rw [← HOL.out]; exact rfl
  rw [HOL.out] at HOO HKK HDD
  obtain ⟨a1, a2, a3, ac1, ac2, ac3, an1, an2, an3, rfl⟩ := h.agg
  obtain ⟨A1, c1, A2, c2, A3, c3, ee, r1, r2, r3, z1, z2, z3⟩ := h
  have HR1 : Hid (FiRow w a1 d.live) := by cases ee; exact r1
  have HN1 : Hid (d.live.length = an1) := by cases ee; rfl
  clear ee r1 r2 r3 z1 z2 z3
  have hsz : s.size + 4 ≤ 9223372036854775807 := by omega
  have HAP : Hid (s ++ (⟨#[46, 110, 101, 119]⟩ : ByteArray) = newS s) := rfl
  clear hl hb0 hd
  go_enter Try.func25, Try.ntmps25
  go_wp2_with fail
  refine (spec_DiskOk _ (HR.out.below (by go_grown)) HL.out).mono ?_
  rintro e w1 ⟨rfl, hb⟩
  rw [HRR.out]
  have k0 := cy hb (b := w.heap.size) (o := 0) (x := .slice a1 an1 ac1) (by go_simp)
  have k1 := cy hb (b := w.heap.size) (o := 1) (x := .slice a2 an2 ac2) (by go_simp)
  have k2 := cy hb (b := w.heap.size) (o := 2) (x := .slice a3 an3 ac3) (by go_simp)
  have p0 := cy hb (b := w.heap.size + 1) (o := 0) (x := .slice none 0 0) (by go_simp)
  have p1 := cy hb (b := w.heap.size + 1) (o := 1) (x := .slice none 0 0) (by go_simp)
  have p2 := cy hb (b := w.heap.size + 1) (o := 2) (x := .slice none 0 0) (by go_simp)
  have pf : ∀ o, w1.frozen? ⟨w.heap.size + 1, o, none⟩ = false := fun o => by
    rw [hb.frozen (p := ⟨w.heap.size + 1, o, none⟩) (by simp)]
    go_simp
  have HB1 : Hid (Below w.heap.size w w1) := Below.trans (by go_grown) (hb.mono (by simp; omega))
  have s1 : w.heap.size + 1 < w1.heap.size := World.block_lt_of_cell? w1 ⟨w.heap.size + 1, 0, none⟩ p0
  have s0 : w.heap.size < w1.heap.size := by omega
  clear hb
  go_wp2_with fail
  try rw [HAP.out]
  refine (spec_l13At (newS s) _ ((HR1.out.below HB1.out).below (by go_grown)) HN1.out).mono ?_
  rintro e wq ⟨r, rfl, hAt, hw⟩
  have hr0 := (hasB_at hAt).1 HBB.out
  clear hAt
  obtain ⟨w2, HW2⟩ : ∃ w2, Hid ((w1.alloc (.cells #[.slice a1 an1 ac1, .slice a2 an2 ac2, .slice a3 an3 ac3] 27)) = w2) := ⟨_, rfl⟩
  rw [HW2.out] at hw
  subst hw
  have hb : Below w1.heap.size w1 wq := by rw [← HW2.out]; exact (Below.refl _ _).alloc (Nat.le_refl _) _
  have g0 : wq.cell? ⟨w1.heap.size, 0, none⟩ = some (.slice a1 an1 ac1) := by rw [← HW2.out]; go_simp
  have g1 : wq.cell? ⟨w1.heap.size, 1, none⟩ = some (.slice a2 an2 ac2) := by rw [← HW2.out]; go_simp
  have g2 : wq.cell? ⟨w1.heap.size, 2, none⟩ = some (.slice a3 an3 ac3) := by rw [← HW2.out]; go_simp
  have gf : ∀ o, wq.frozen? ⟨w1.heap.size, o, none⟩ = false := fun o => by rw [← HW2.out]; go_simp
  have HGB : Hid (∃ c r, wq.heap[w1.heap.size]? = some (.cells c 27 r)) := by rw [← HW2.out]; exact ⟨_, _, blk_at rfl⟩
  replace k0 := cy hb k0
  replace k1 := cy hb k1
  replace k2 := cy hb k2
  replace p0 := cy hb p0
  replace p1 := cy hb p1
  replace p2 := cy hb p2
  replace pf : ∀ o, wq.frozen? ⟨w.heap.size + 1, o, none⟩ = false := fun o => by
    rw [hb.frozen (p := ⟨w.heap.size + 1, o, none⟩) (by omega)]
    exact pf o
  have HBQ : Hid (Below w.heap.size w wq) := bchain HB1.out hb
  have HBX : Hid (Below w1.heap.size w1 wq) := hb
  have sq := hb.size
  have t1 : w.heap.size + 1 < wq.heap.size := by omega
  have t0 : w.heap.size < wq.heap.size := by omega
  have tg : w1.heap.size < wq.heap.size := World.block_lt_of_cell? wq ⟨w1.heap.size, 0, none⟩ g0
  have HOK0 : Hid (rpOk OL d 0) := fun j y hj => by omega
  have HRW0 : Hid (DkRow wq (.agg #[.slice a1 an1 ac1, .slice a2 an2 ac2, .slice a3 an3 ac3]) (rpN OL d 0)) := HR.out.below HBQ.out
  clear hb HW2
  have HXT0 : Hid (OL[0]? = some (rpA s)) := by rw [← HOL.out]; rfl
  have HXO0 : Hid (dpOk (rpA s) ∧ (rpA s).d.size ≤ 1048576) := HOO.out _ (List.mem_of_getElem? HXT0.out)
  obtain ⟨dm0, HDM0⟩ : ∃ dm, Hid (rpN OL d 0 = dm) := ⟨_, rfl⟩
  have HRD0 : Hid (diskB dm0 = true ∧ DkLil dm0) := by rw [← HDM0.out]; exact rp_diskW HRR.out HL.out HOO.out 0 (by rw [HOL2.out]; omega) HOK0.out
  rw [HDM0.out] at HRW0
  obtain ⟨sk0, HSK0⟩ : ∃ sk, Hid (doK dm0 (rpA s) = sk) := ⟨_, rfl⟩
  go_wp2_with fail
  refine (spec_l13ActW (rpA s) _ (HRW0.out.below (by go_grown)) HRD0.out.2 HXO0.out.1 HXO0.out.2 HRD0.out.1).mono ?_
  rintro e u0 ⟨vn, rfl, ho, hb⟩
  rw [HSK0.out]
  have hbb : Below wq.heap.size wq u0 := Below.trans (by go_grown) (hb.mono (by simp))
  obtain ⟨v1, v2, v3, rfl, o1, o2, o3⟩ := ho
  obtain ⟨D01, Dc01, rfl, y1, y2⟩ := own_shape o1
  obtain ⟨D02, Dc02, rfl, y3, y4⟩ := own_shape o2
  obtain ⟨D03, Dc03, rfl, y5, y6⟩ := own_shape o3
  have HHN0 : Hid (DkHas u0 w1.heap.size (.agg #[.slice D01 (acD dm0 (rpA s)).live.length Dc01, .slice D02 (acD dm0 (rpA s)).safe.length Dc02, .slice D03 (acD dm0 (rpA s)).ops.length Dc03]) (acD dm0 (rpA s))) := ⟨_, _, _, rfl, own_mono o1 (by first | omega | (simp; omega)), own_mono o2 (by first | omega | (simp; omega)), own_mono o3 (by first | omega | (simp; omega))⟩
  obtain ⟨Dn01, HDn01⟩ : ∃ n, Hid ((acD dm0 (rpA s)).live.length = n) := ⟨_, rfl⟩
  obtain ⟨Dn02, HDn02⟩ : ∃ n, Hid ((acD dm0 (rpA s)).safe.length = n) := ⟨_, rfl⟩
  obtain ⟨Dn03, HDn03⟩ : ∃ n, Hid ((acD dm0 (rpA s)).ops.length = n) := ⟨_, rfl⟩
  rw [HDn01.out, HDn02.out, HDn03.out] at HHN0
  rw [HDn01.out, HDn02.out, HDn03.out]
  replace k0 := cy hbb k0
  replace k1 := cy hbb k1
  replace k2 := cy hbb k2
  replace p0 := cy hbb p0
  replace p1 := cy hbb p1
  replace p2 := cy hbb p2
  replace pf : ∀ o, u0.frozen? ⟨w.heap.size + 1, o, none⟩ = false := fun o => by
    rw [hbb.frozen (p := ⟨w.heap.size + 1, o, none⟩) (by omega)]
    exact pf o
  replace g0 := cy hbb g0
  replace g1 := cy hbb g1
  replace g2 := cy hbb g2
  replace gf : ∀ o, u0.frozen? ⟨w1.heap.size, o, none⟩ = false := fun o => by
    rw [hbb.frozen (p := ⟨w1.heap.size, o, none⟩) (by omega)]
    exact gf o
  replace HGB : Hid (∃ c r, u0.heap[w1.heap.size]? = some (.cells c 27 r)) := by
    obtain ⟨c, r, h⟩ := HGB.out
    exact ⟨c, r, (hbb.block _ (by omega)).trans h⟩
  have HBu0 : Hid (Below w1.heap.size w1 u0) := bchain HBX.out hbb
  have su0 := hbb.size
  have t1u0 : w.heap.size + 1 < u0.heap.size := by omega
  have t0u0 : w.heap.size < u0.heap.size := by omega
  have tgu0 : w1.heap.size < u0.heap.size := by omega
  clear hb hbb o1 o2 o3 y1 y2 y3 y4 y5 y6
  by_cases hk0 : sk0 ≠ 0
  · have hq1 : (sk0 == 0) = false := by simpa using hk0
    have hq2 : (sk0 != 0) = true := by simp [hk0]
    have HKE : Hid (rpK d s x = sk0) := by show _ = _; rw [HKK.out, rpC_end HOK0.out HXT0.out (by rw [HDM0.out, HSK0.out]; exact hk0) HOL2.out, HDM0.out, HSK0.out]
    have HDE : Hid (rpD d s x = d) := by show _ = _; rw [HDD.out, HKE.out, if_neg hk0]
    obtain ⟨q9, HQ9⟩ : ∃ q9, Hid ((((u0.setCell ⟨w1.heap.size, 0, none⟩ (.slice D01 Dn01 Dc01)).setCell ⟨w1.heap.size, 1, none⟩ (.slice D02 Dn02 Dc02)).setCell ⟨w1.heap.size, 2, none⟩ (.slice D03 Dn03 Dc03)) = q9) := ⟨_, rfl⟩
    have HB9 : Hid (Below w.heap.size w q9) := by rw [← HQ9.out]; exact below_sa3 (bchain HB1.out HBu0.out) (by omega) _ _ _
    have HX9 : Hid (Below w1.heap.size w1 q9) := by rw [← HQ9.out]; exact below_sa3 HBu0.out (Nat.le_refl _) _ _ _
    go_wp2_with fail
    try rw [HQ9.out]
    refine (spec_l13Copy _ (HR.out.below HB9.out) HL.out).mono ?_
    rintro e f1 ⟨v1, v2, v3, rfl, ⟨o1, o2, o3⟩, hb⟩
    obtain ⟨M1, q1, rfl, y1, y2⟩ := own_shape o1
    obtain ⟨M2, q2, rfl, y3, y4⟩ := own_shape o2
    obtain ⟨M3, q3, rfl, y5, y6⟩ := own_shape o3
    have z9 : w1.heap.size ≤ q9.heap.size := HX9.out.size
    have HH : Hid (DkHas f1 (w.heap.size + 2) (.agg #[.slice M1 d.live.length q1, .slice M2 d.safe.length q2, .slice M3 d.ops.length q3]) d) := ⟨_, _, _, rfl, own_mono o1 (by omega), own_mono o2 (by omega), own_mono o3 (by omega)⟩
    have HBF : Hid (Below w.heap.size w f1) := bchain HB9.out hb
    have j0 : f1.cell? ⟨w.heap.size + 1, 0, none⟩ = some (.slice none 0 0) := cy hb (by rw [← HQ9.out]; go_simp)
    have j1 : f1.cell? ⟨w.heap.size + 1, 1, none⟩ = some (.slice none 0 0) := cy hb (by rw [← HQ9.out]; go_simp)
    have j2 : f1.cell? ⟨w.heap.size + 1, 2, none⟩ = some (.slice none 0 0) := cy hb (by rw [← HQ9.out]; go_simp)
    have jf : ∀ o, f1.frozen? ⟨w.heap.size + 1, o, none⟩ = false := fun o => by
      rw [hb.frozen (p := ⟨w.heap.size + 1, o, none⟩) (by show w.heap.size + 1 < _; omega), ← HQ9.out]
      go_simp
    have jl : w.heap.size + 1 < f1.heap.size := World.block_lt_of_cell? f1 ⟨w.heap.size + 1, 0, none⟩ j0
    clear hb o1 o2 o3 y1 y2 y3 y4 y5 y6
    go_wp2_with fail
    refine bodyPost_ret (v := .tuple #[.agg #[.slice M1 d.live.length q1, .slice M2 d.safe.length q2, .slice M3 d.ops.length q3], .int .i64 sk0]) ?_ rfl ⟨_, by rw [HKE.out], ?_, ?_⟩
    · simp (maxDischargeDepth := 9) [results, Try.results25, go_sem, *]
    · rw [HDE.out]; exact (((HH.out.set (by omega) _ _).set (by omega) _ _).set (by omega) _ _).mono (by omega)
    · exact below_sa3 HBF.out (by omega) _ _ _
  have hz0 : sk0 = 0 := Classical.not_not.1 hk0
  have HOK1 : Hid (rpOk OL d 1) := rpOk_step HOK0.out HXT0.out (by rw [HDM0.out, HSK0.out]; exact hz0)
  have HAC0 : Hid (rpN OL d 1 = acD dm0 (rpA s)) := by show _ = _; rw [rpN_step HXT0.out, HDM0.out]
  have HNW := HHN0.out.setBox3 (a := .slice D01 Dn01 Dc01) (b := .slice D02 Dn02 Dc02) (c := .slice D03 Dn03 Dc03) (HGB.out.choose_spec.choose_spec)
  have HC3 := box_cells (v1 := .slice D01 Dn01 Dc01) (v2 := .slice D02 Dn02 Dc02) (v3 := .slice D03 Dn03 Dc03) g0 g1 g2
  subst hz0
  clear hk0
  go_wp2_with fail
  obtain ⟨x0, HQx0⟩ : ∃ q9, Hid ((((u0.setCell ⟨w1.heap.size, 0, none⟩ (.slice D01 Dn01 Dc01)).setCell ⟨w1.heap.size, 1, none⟩ (.slice D02 Dn02 Dc02)).setCell ⟨w1.heap.size, 2, none⟩ (.slice D03 Dn03 Dc03)) = q9) := ⟨_, rfl⟩
  rw [HQx0.out] at HNW HC3 ⊢
  have HBx0 : Hid (Below w1.heap.size w1 x0) := by rw [← HQx0.out]; exact below_sa3 HBu0.out (Nat.le_refl _) _ _ _
  have HHX0 : Hid (DkHas x0 w1.heap.size (.agg #[.slice D01 Dn01 Dc01, .slice D02 Dn02 Dc02, .slice D03 Dn03 Dc03]) (rpN OL d 1)) := by rw [HAC0.out]; exact HNW
  have HRW1 : Hid (DkRow x0 (.agg #[.slice D01 Dn01 Dc01, .slice D02 Dn02 Dc02, .slice D03 Dn03 Dc03]) (rpN OL d 1)) := HHX0.out.row
  replace k0 : x0.cell? ⟨w.heap.size, 0, none⟩ = some (.slice a1 an1 ac1) := by rw [← HQx0.out]; go_simp
  replace k1 : x0.cell? ⟨w.heap.size, 1, none⟩ = some (.slice a2 an2 ac2) := by rw [← HQx0.out]; go_simp
  replace k2 : x0.cell? ⟨w.heap.size, 2, none⟩ = some (.slice a3 an3 ac3) := by rw [← HQx0.out]; go_simp
  replace p0 : x0.cell? ⟨w.heap.size + 1, 0, none⟩ = some (.slice none 0 0) := by rw [← HQx0.out]; go_simp
  replace p1 : x0.cell? ⟨w.heap.size + 1, 1, none⟩ = some (.slice none 0 0) := by rw [← HQx0.out]; go_simp
  replace p2 : x0.cell? ⟨w.heap.size + 1, 2, none⟩ = some (.slice none 0 0) := by rw [← HQx0.out]; go_simp
  replace pf : ∀ o, x0.frozen? ⟨w.heap.size + 1, o, none⟩ = false := fun o => by rw [← HQx0.out]; go_simp
  replace gf : ∀ o, x0.frozen? ⟨w1.heap.size, o, none⟩ = false := fun o => by rw [← HQx0.out]; go_simp
  replace HGB : Hid (∃ c r, x0.heap[w1.heap.size]? = some (.cells c 27 r)) := by
    rw [← HQx0.out]
    obtain ⟨c, r, h⟩ := HGB.out
    obtain ⟨c', h1⟩ := set_blk (o := 0) (x := .slice D01 Dn01 Dc01) h
    obtain ⟨c'', h2⟩ := set_blk (o := 1) (x := .slice D02 Dn02 Dc02) h1
    obtain ⟨c3, h3⟩ := set_blk (o := 2) (x := .slice D03 Dn03 Dc03) h2
    exact ⟨_, _, h3⟩
  replace g0 := HC3.1
  replace g1 := HC3.2.1
  replace g2 := HC3.2.2
  have tgx0 : w1.heap.size < x0.heap.size := World.block_lt_of_cell? x0 ⟨w1.heap.size, 0, none⟩ g0
  have t1x0 : w.heap.size + 1 < x0.heap.size := by omega
  have t0x0 : w.heap.size < x0.heap.size := by omega
  replace HBX : Hid (Below w1.heap.size w1 x0) := HBx0.out
  clear HNW HC3
  have HXT1 : Hid (OL[1]? = some (rpB s x)) := by rw [← HOL.out]; rfl
  have HXO1 : Hid (dpOk (rpB s x) ∧ (rpB s x).d.size ≤ 1048576) := HOO.out _ (List.mem_of_getElem? HXT1.out)
  obtain ⟨dm1, HDM1⟩ : ∃ dm, Hid (rpN OL d 1 = dm) := ⟨_, rfl⟩
  have HRD1 : Hid (diskB dm1 = true ∧ DkLil dm1) := by rw [← HDM1.out]; exact rp_diskW HRR.out HL.out HOO.out 1 (by rw [HOL2.out]; omega) HOK1.out
  rw [HDM1.out] at HRW1
  obtain ⟨sk1, HSK1⟩ : ∃ sk, Hid (doK dm1 (rpB s x) = sk) := ⟨_, rfl⟩
  refine (spec_l13ActW (rpB s x) _ (HRW1.out.below (by go_grown)) HRD1.out.2 HXO1.out.1 HXO1.out.2 HRD1.out.1).mono ?_
  rintro e u1 ⟨vn, rfl, ho, hb⟩
  rw [HSK1.out]
  have hbb : Below x0.heap.size x0 u1 := Below.trans (by go_grown) (hb.mono (by simp))
  obtain ⟨v1, v2, v3, rfl, o1, o2, o3⟩ := ho
  obtain ⟨D11, Dc11, rfl, y1, y2⟩ := own_shape o1
  obtain ⟨D12, Dc12, rfl, y3, y4⟩ := own_shape o2
  obtain ⟨D13, Dc13, rfl, y5, y6⟩ := own_shape o3
  have HHN1 : Hid (DkHas u1 w1.heap.size (.agg #[.slice D11 (acD dm1 (rpB s x)).live.length Dc11, .slice D12 (acD dm1 (rpB s x)).safe.length Dc12, .slice D13 (acD dm1 (rpB s x)).ops.length Dc13]) (acD dm1 (rpB s x))) := ⟨_, _, _, rfl, own_mono o1 (by first | omega | (simp; omega)), own_mono o2 (by first | omega | (simp; omega)), own_mono o3 (by first | omega | (simp; omega))⟩
  obtain ⟨Dn11, HDn11⟩ : ∃ n, Hid ((acD dm1 (rpB s x)).live.length = n) := ⟨_, rfl⟩
  obtain ⟨Dn12, HDn12⟩ : ∃ n, Hid ((acD dm1 (rpB s x)).safe.length = n) := ⟨_, rfl⟩
  obtain ⟨Dn13, HDn13⟩ : ∃ n, Hid ((acD dm1 (rpB s x)).ops.length = n) := ⟨_, rfl⟩
  rw [HDn11.out, HDn12.out, HDn13.out] at HHN1
  rw [HDn11.out, HDn12.out, HDn13.out]
  replace k0 := cy hbb k0
  replace k1 := cy hbb k1
  replace k2 := cy hbb k2
  replace p0 := cy hbb p0
  replace p1 := cy hbb p1
  replace p2 := cy hbb p2
  replace pf : ∀ o, u1.frozen? ⟨w.heap.size + 1, o, none⟩ = false := fun o => by
    rw [hbb.frozen (p := ⟨w.heap.size + 1, o, none⟩) (by omega)]
    exact pf o
  replace g0 := cy hbb g0
  replace g1 := cy hbb g1
  replace g2 := cy hbb g2
  replace gf : ∀ o, u1.frozen? ⟨w1.heap.size, o, none⟩ = false := fun o => by
    rw [hbb.frozen (p := ⟨w1.heap.size, o, none⟩) (by omega)]
    exact gf o
  replace HGB : Hid (∃ c r, u1.heap[w1.heap.size]? = some (.cells c 27 r)) := by
    obtain ⟨c, r, h⟩ := HGB.out
    exact ⟨c, r, (hbb.block _ (by omega)).trans h⟩
  have HBu1 : Hid (Below w1.heap.size w1 u1) := bchain HBX.out hbb
  have su1 := hbb.size
  have t1u1 : w.heap.size + 1 < u1.heap.size := by omega
  have t0u1 : w.heap.size < u1.heap.size := by omega
  have tgu1 : w1.heap.size < u1.heap.size := by omega
  clear hb hbb o1 o2 o3 y1 y2 y3 y4 y5 y6
  by_cases hk1 : sk1 ≠ 0
  · have hq1 : (sk1 == 0) = false := by simpa using hk1
    have hq2 : (sk1 != 0) = true := by simp [hk1]
    have HKE : Hid (rpK d s x = sk1) := by show _ = _; rw [HKK.out, rpC_end HOK1.out HXT1.out (by rw [HDM1.out, HSK1.out]; exact hk1) HOL2.out, HDM1.out, HSK1.out]
    have HDE : Hid (rpD d s x = d) := by show _ = _; rw [HDD.out, HKE.out, if_neg hk1]
    obtain ⟨q9, HQ9⟩ : ∃ q9, Hid ((((u1.setCell ⟨w1.heap.size, 0, none⟩ (.slice D11 Dn11 Dc11)).setCell ⟨w1.heap.size, 1, none⟩ (.slice D12 Dn12 Dc12)).setCell ⟨w1.heap.size, 2, none⟩ (.slice D13 Dn13 Dc13)) = q9) := ⟨_, rfl⟩
    have HB9 : Hid (Below w.heap.size w q9) := by rw [← HQ9.out]; exact below_sa3 (bchain HB1.out HBu1.out) (by omega) _ _ _
    have HX9 : Hid (Below w1.heap.size w1 q9) := by rw [← HQ9.out]; exact below_sa3 HBu1.out (Nat.le_refl _) _ _ _
    go_wp2_with fail
    try rw [HQ9.out]
    refine (spec_l13Copy _ (HR.out.below HB9.out) HL.out).mono ?_
    rintro e f1 ⟨v1, v2, v3, rfl, ⟨o1, o2, o3⟩, hb⟩
    obtain ⟨M1, q1, rfl, y1, y2⟩ := own_shape o1
    obtain ⟨M2, q2, rfl, y3, y4⟩ := own_shape o2
    obtain ⟨M3, q3, rfl, y5, y6⟩ := own_shape o3
    have z9 : w1.heap.size ≤ q9.heap.size := HX9.out.size
    have HH : Hid (DkHas f1 (w.heap.size + 2) (.agg #[.slice M1 d.live.length q1, .slice M2 d.safe.length q2, .slice M3 d.ops.length q3]) d) := ⟨_, _, _, rfl, own_mono o1 (by omega), own_mono o2 (by omega), own_mono o3 (by omega)⟩
    have HBF : Hid (Below w.heap.size w f1) := bchain HB9.out hb
    have j0 : f1.cell? ⟨w.heap.size + 1, 0, none⟩ = some (.slice none 0 0) := cy hb (by rw [← HQ9.out]; go_simp)
    have j1 : f1.cell? ⟨w.heap.size + 1, 1, none⟩ = some (.slice none 0 0) := cy hb (by rw [← HQ9.out]; go_simp)
    have j2 : f1.cell? ⟨w.heap.size + 1, 2, none⟩ = some (.slice none 0 0) := cy hb (by rw [← HQ9.out]; go_simp)
    have jf : ∀ o, f1.frozen? ⟨w.heap.size + 1, o, none⟩ = false := fun o => by
      rw [hb.frozen (p := ⟨w.heap.size + 1, o, none⟩) (by show w.heap.size + 1 < _; omega), ← HQ9.out]
      go_simp
    have jl : w.heap.size + 1 < f1.heap.size := World.block_lt_of_cell? f1 ⟨w.heap.size + 1, 0, none⟩ j0
    clear hb o1 o2 o3 y1 y2 y3 y4 y5 y6
    go_wp2_with fail
    refine bodyPost_ret (v := .tuple #[.agg #[.slice M1 d.live.length q1, .slice M2 d.safe.length q2, .slice M3 d.ops.length q3], .int .i64 sk1]) ?_ rfl ⟨_, by rw [HKE.out], ?_, ?_⟩
    · simp (maxDischargeDepth := 9) [results, Try.results25, go_sem, *]
    · rw [HDE.out]; exact (((HH.out.set (by omega) _ _).set (by omega) _ _).set (by omega) _ _).mono (by omega)
    · exact below_sa3 HBF.out (by omega) _ _ _
  have hz1 : sk1 = 0 := Classical.not_not.1 hk1
  have HOK2 : Hid (rpOk OL d 2) := rpOk_step HOK1.out HXT1.out (by rw [HDM1.out, HSK1.out]; exact hz1)
  have HAC1 : Hid (rpN OL d 2 = acD dm1 (rpB s x)) := by show _ = _; rw [rpN_step HXT1.out, HDM1.out]
  have HNW := HHN1.out.setBox3 (a := .slice D11 Dn11 Dc11) (b := .slice D12 Dn12 Dc12) (c := .slice D13 Dn13 Dc13) (HGB.out.choose_spec.choose_spec)
  have HC3 := box_cells (v1 := .slice D11 Dn11 Dc11) (v2 := .slice D12 Dn12 Dc12) (v3 := .slice D13 Dn13 Dc13) g0 g1 g2
  subst hz1
  clear hk1
  go_wp2_with fail
  obtain ⟨x1, HQx1⟩ : ∃ q9, Hid ((((u1.setCell ⟨w1.heap.size, 0, none⟩ (.slice D11 Dn11 Dc11)).setCell ⟨w1.heap.size, 1, none⟩ (.slice D12 Dn12 Dc12)).setCell ⟨w1.heap.size, 2, none⟩ (.slice D13 Dn13 Dc13)) = q9) := ⟨_, rfl⟩
  rw [HQx1.out] at HNW HC3 ⊢
  have HBx1 : Hid (Below w1.heap.size w1 x1) := by rw [← HQx1.out]; exact below_sa3 HBu1.out (Nat.le_refl _) _ _ _
  have HHX1 : Hid (DkHas x1 w1.heap.size (.agg #[.slice D11 Dn11 Dc11, .slice D12 Dn12 Dc12, .slice D13 Dn13 Dc13]) (rpN OL d 2)) := by rw [HAC1.out]; exact HNW
  have HRW2 : Hid (DkRow x1 (.agg #[.slice D11 Dn11 Dc11, .slice D12 Dn12 Dc12, .slice D13 Dn13 Dc13]) (rpN OL d 2)) := HHX1.out.row
  replace k0 : x1.cell? ⟨w.heap.size, 0, none⟩ = some (.slice a1 an1 ac1) := by rw [← HQx1.out]; go_simp
  replace k1 : x1.cell? ⟨w.heap.size, 1, none⟩ = some (.slice a2 an2 ac2) := by rw [← HQx1.out]; go_simp
  replace k2 : x1.cell? ⟨w.heap.size, 2, none⟩ = some (.slice a3 an3 ac3) := by rw [← HQx1.out]; go_simp
  replace p0 : x1.cell? ⟨w.heap.size + 1, 0, none⟩ = some (.slice none 0 0) := by rw [← HQx1.out]; go_simp
  replace p1 : x1.cell? ⟨w.heap.size + 1, 1, none⟩ = some (.slice none 0 0) := by rw [← HQx1.out]; go_simp
  replace p2 : x1.cell? ⟨w.heap.size + 1, 2, none⟩ = some (.slice none 0 0) := by rw [← HQx1.out]; go_simp
  replace pf : ∀ o, x1.frozen? ⟨w.heap.size + 1, o, none⟩ = false := fun o => by rw [← HQx1.out]; go_simp
  replace gf : ∀ o, x1.frozen? ⟨w1.heap.size, o, none⟩ = false := fun o => by rw [← HQx1.out]; go_simp
  replace HGB : Hid (∃ c r, x1.heap[w1.heap.size]? = some (.cells c 27 r)) := by
    rw [← HQx1.out]
    obtain ⟨c, r, h⟩ := HGB.out
    obtain ⟨c', h1⟩ := set_blk (o := 0) (x := .slice D11 Dn11 Dc11) h
    obtain ⟨c'', h2⟩ := set_blk (o := 1) (x := .slice D12 Dn12 Dc12) h1
    obtain ⟨c3, h3⟩ := set_blk (o := 2) (x := .slice D13 Dn13 Dc13) h2
    exact ⟨_, _, h3⟩
  replace g0 := HC3.1
  replace g1 := HC3.2.1
  replace g2 := HC3.2.2
  have tgx1 : w1.heap.size < x1.heap.size := World.block_lt_of_cell? x1 ⟨w1.heap.size, 0, none⟩ g0
  have t1x1 : w.heap.size + 1 < x1.heap.size := by omega
  have t0x1 : w.heap.size < x1.heap.size := by omega
  replace HBX : Hid (Below w1.heap.size w1 x1) := HBx1.out
  clear HNW HC3
  have HXT2 : Hid (OL[2]? = some (rpR s)) := by rw [← HOL.out]; rfl
  have HXO2 : Hid (dpOk (rpR s) ∧ (rpR s).d.size ≤ 1048576) := HOO.out _ (List.mem_of_getElem? HXT2.out)
  obtain ⟨dm2, HDM2⟩ : ∃ dm, Hid (rpN OL d 2 = dm) := ⟨_, rfl⟩
  have HRD2 : Hid (diskB dm2 = true ∧ DkLil dm2) := by rw [← HDM2.out]; exact rp_diskW HRR.out HL.out HOO.out 2 (by rw [HOL2.out]; omega) HOK2.out
  rw [HDM2.out] at HRW2
  obtain ⟨sk2, HSK2⟩ : ∃ sk, Hid (doK dm2 (rpR s) = sk) := ⟨_, rfl⟩
  refine (spec_l13ActW (rpR s) _ (HRW2.out.below (by go_grown)) HRD2.out.2 HXO2.out.1 HXO2.out.2 HRD2.out.1).mono ?_
  rintro e u2 ⟨vn, rfl, ho, hb⟩
  rw [HSK2.out]
  have hbb : Below x1.heap.size x1 u2 := Below.trans (by go_grown) (hb.mono (by simp))
  obtain ⟨v1, v2, v3, rfl, o1, o2, o3⟩ := ho
  obtain ⟨D21, Dc21, rfl, y1, y2⟩ := own_shape o1
  obtain ⟨D22, Dc22, rfl, y3, y4⟩ := own_shape o2
  obtain ⟨D23, Dc23, rfl, y5, y6⟩ := own_shape o3
  have HHN2 : Hid (DkHas u2 w1.heap.size (.agg #[.slice D21 (acD dm2 (rpR s)).live.length Dc21, .slice D22 (acD dm2 (rpR s)).safe.length Dc22, .slice D23 (acD dm2 (rpR s)).ops.length Dc23]) (acD dm2 (rpR s))) := ⟨_, _, _, rfl, own_mono o1 (by first | omega | (simp; omega)), own_mono o2 (by first | omega | (simp; omega)), own_mono o3 (by first | omega | (simp; omega))⟩
  obtain ⟨Dn21, HDn21⟩ : ∃ n, Hid ((acD dm2 (rpR s)).live.length = n) := ⟨_, rfl⟩
  obtain ⟨Dn22, HDn22⟩ : ∃ n, Hid ((acD dm2 (rpR s)).safe.length = n) := ⟨_, rfl⟩
  obtain ⟨Dn23, HDn23⟩ : ∃ n, Hid ((acD dm2 (rpR s)).ops.length = n) := ⟨_, rfl⟩
  rw [HDn21.out, HDn22.out, HDn23.out] at HHN2
  rw [HDn21.out, HDn22.out, HDn23.out]
  replace k0 := cy hbb k0
  replace k1 := cy hbb k1
  replace k2 := cy hbb k2
  replace p0 := cy hbb p0
  replace p1 := cy hbb p1
  replace p2 := cy hbb p2
  replace pf : ∀ o, u2.frozen? ⟨w.heap.size + 1, o, none⟩ = false := fun o => by
    rw [hbb.frozen (p := ⟨w.heap.size + 1, o, none⟩) (by omega)]
    exact pf o
  replace g0 := cy hbb g0
  replace g1 := cy hbb g1
  replace g2 := cy hbb g2
  replace gf : ∀ o, u2.frozen? ⟨w1.heap.size, o, none⟩ = false := fun o => by
    rw [hbb.frozen (p := ⟨w1.heap.size, o, none⟩) (by omega)]
    exact gf o
  replace HGB : Hid (∃ c r, u2.heap[w1.heap.size]? = some (.cells c 27 r)) := by
    obtain ⟨c, r, h⟩ := HGB.out
    exact ⟨c, r, (hbb.block _ (by omega)).trans h⟩
  have HBu2 : Hid (Below w1.heap.size w1 u2) := bchain HBX.out hbb
  have su2 := hbb.size
  have t1u2 : w.heap.size + 1 < u2.heap.size := by omega
  have t0u2 : w.heap.size < u2.heap.size := by omega
  have tgu2 : w1.heap.size < u2.heap.size := by omega
  clear hb hbb o1 o2 o3 y1 y2 y3 y4 y5 y6
  by_cases hk2 : sk2 ≠ 0
  · have hq1 : (sk2 == 0) = false := by simpa using hk2
    have hq2 : (sk2 != 0) = true := by simp [hk2]
    have HKE : Hid (rpK d s x = sk2) := by show _ = _; rw [HKK.out, rpC_end HOK2.out HXT2.out (by rw [HDM2.out, HSK2.out]; exact hk2) HOL2.out, HDM2.out, HSK2.out]
    have HDE : Hid (rpD d s x = d) := by show _ = _; rw [HDD.out, HKE.out, if_neg hk2]
    obtain ⟨q9, HQ9⟩ : ∃ q9, Hid ((((u2.setCell ⟨w1.heap.size, 0, none⟩ (.slice D21 Dn21 Dc21)).setCell ⟨w1.heap.size, 1, none⟩ (.slice D22 Dn22 Dc22)).setCell ⟨w1.heap.size, 2, none⟩ (.slice D23 Dn23 Dc23)) = q9) := ⟨_, rfl⟩
    have HB9 : Hid (Below w.heap.size w q9) := by rw [← HQ9.out]; exact below_sa3 (bchain HB1.out HBu2.out) (by omega) _ _ _
    have HX9 : Hid (Below w1.heap.size w1 q9) := by rw [← HQ9.out]; exact below_sa3 HBu2.out (Nat.le_refl _) _ _ _
    go_wp2_with fail
    try rw [HQ9.out]
    refine (spec_l13Copy _ (HR.out.below HB9.out) HL.out).mono ?_
    rintro e f1 ⟨v1, v2, v3, rfl, ⟨o1, o2, o3⟩, hb⟩
    obtain ⟨M1, q1, rfl, y1, y2⟩ := own_shape o1
    obtain ⟨M2, q2, rfl, y3, y4⟩ := own_shape o2
    obtain ⟨M3, q3, rfl, y5, y6⟩ := own_shape o3
    have z9 : w1.heap.size ≤ q9.heap.size := HX9.out.size
    have HH : Hid (DkHas f1 (w.heap.size + 2) (.agg #[.slice M1 d.live.length q1, .slice M2 d.safe.length q2, .slice M3 d.ops.length q3]) d) := ⟨_, _, _, rfl, own_mono o1 (by omega), own_mono o2 (by omega), own_mono o3 (by omega)⟩
    have HBF : Hid (Below w.heap.size w f1) := bchain HB9.out hb
    have j0 : f1.cell? ⟨w.heap.size + 1, 0, none⟩ = some (.slice none 0 0) := cy hb (by rw [← HQ9.out]; go_simp)
    have j1 : f1.cell? ⟨w.heap.size + 1, 1, none⟩ = some (.slice none 0 0) := cy hb (by rw [← HQ9.out]; go_simp)
    have j2 : f1.cell? ⟨w.heap.size + 1, 2, none⟩ = some (.slice none 0 0) := cy hb (by rw [← HQ9.out]; go_simp)
    have jf : ∀ o, f1.frozen? ⟨w.heap.size + 1, o, none⟩ = false := fun o => by
      rw [hb.frozen (p := ⟨w.heap.size + 1, o, none⟩) (by show w.heap.size + 1 < _; omega), ← HQ9.out]
      go_simp
    have jl : w.heap.size + 1 < f1.heap.size := World.block_lt_of_cell? f1 ⟨w.heap.size + 1, 0, none⟩ j0
    clear hb o1 o2 o3 y1 y2 y3 y4 y5 y6
    go_wp2_with fail
    refine bodyPost_ret (v := .tuple #[.agg #[.slice M1 d.live.length q1, .slice M2 d.safe.length q2, .slice M3 d.ops.length q3], .int .i64 sk2]) ?_ rfl ⟨_, by rw [HKE.out], ?_, ?_⟩
    · simp (maxDischargeDepth := 9) [results, Try.results25, go_sem, *]
    · rw [HDE.out]; exact (((HH.out.set (by omega) _ _).set (by omega) _ _).set (by omega) _ _).mono (by omega)
    · exact below_sa3 HBF.out (by omega) _ _ _
  have hz2 : sk2 = 0 := Classical.not_not.1 hk2
  have HOK3 : Hid (rpOk OL d 3) := rpOk_step HOK2.out HXT2.out (by rw [HDM2.out, HSK2.out]; exact hz2)
  have HAC2 : Hid (rpN OL d 3 = acD dm2 (rpR s)) := by show _ = _; rw [rpN_step HXT2.out, HDM2.out]
  have HNW := HHN2.out.setBox3 (a := .slice D21 Dn21 Dc21) (b := .slice D22 Dn22 Dc22) (c := .slice D23 Dn23 Dc23) (HGB.out.choose_spec.choose_spec)
  have HC3 := box_cells (v1 := .slice D21 Dn21 Dc21) (v2 := .slice D22 Dn22 Dc22) (v3 := .slice D23 Dn23 Dc23) g0 g1 g2
  subst hz2
  clear hk2
  go_wp2_with fail
  obtain ⟨x2, HQx2⟩ : ∃ q9, Hid ((((u2.setCell ⟨w1.heap.size, 0, none⟩ (.slice D21 Dn21 Dc21)).setCell ⟨w1.heap.size, 1, none⟩ (.slice D22 Dn22 Dc22)).setCell ⟨w1.heap.size, 2, none⟩ (.slice D23 Dn23 Dc23)) = q9) := ⟨_, rfl⟩
  rw [HQx2.out] at HNW HC3 ⊢
  have HBx2 : Hid (Below w1.heap.size w1 x2) := by rw [← HQx2.out]; exact below_sa3 HBu2.out (Nat.le_refl _) _ _ _
  have HHX2 : Hid (DkHas x2 w1.heap.size (.agg #[.slice D21 Dn21 Dc21, .slice D22 Dn22 Dc22, .slice D23 Dn23 Dc23]) (rpN OL d 3)) := by rw [HAC2.out]; exact HNW
  have HRW3 : Hid (DkRow x2 (.agg #[.slice D21 Dn21 Dc21, .slice D22 Dn22 Dc22, .slice D23 Dn23 Dc23]) (rpN OL d 3)) := HHX2.out.row
  replace k0 : x2.cell? ⟨w.heap.size, 0, none⟩ = some (.slice a1 an1 ac1) := by rw [← HQx2.out]; go_simp
  replace k1 : x2.cell? ⟨w.heap.size, 1, none⟩ = some (.slice a2 an2 ac2) := by rw [← HQx2.out]; go_simp
  replace k2 : x2.cell? ⟨w.heap.size, 2, none⟩ = some (.slice a3 an3 ac3) := by rw [← HQx2.out]; go_simp
  replace p0 : x2.cell? ⟨w.heap.size + 1, 0, none⟩ = some (.slice none 0 0) := by rw [← HQx2.out]; go_simp
  replace p1 : x2.cell? ⟨w.heap.size + 1, 1, none⟩ = some (.slice none 0 0) := by rw [← HQx2.out]; go_simp
  replace p2 : x2.cell? ⟨w.heap.size + 1, 2, none⟩ = some (.slice none 0 0) := by rw [← HQx2.out]; go_simp
  replace pf : ∀ o, x2.frozen? ⟨w.heap.size + 1, o, none⟩ = false := fun o => by rw [← HQx2.out]; go_simp
  replace gf : ∀ o, x2.frozen? ⟨w1.heap.size, o, none⟩ = false := fun o => by rw [← HQx2.out]; go_simp
  replace HGB : Hid (∃ c r, x2.heap[w1.heap.size]? = some (.cells c 27 r)) := by
    rw [← HQx2.out]
    obtain ⟨c, r, h⟩ := HGB.out
    obtain ⟨c', h1⟩ := set_blk (o := 0) (x := .slice D21 Dn21 Dc21) h
    obtain ⟨c'', h2⟩ := set_blk (o := 1) (x := .slice D22 Dn22 Dc22) h1
    obtain ⟨c3, h3⟩ := set_blk (o := 2) (x := .slice D23 Dn23 Dc23) h2
    exact ⟨_, _, h3⟩
  replace g0 := HC3.1
  replace g1 := HC3.2.1
  replace g2 := HC3.2.2
  have tgx2 : w1.heap.size < x2.heap.size := World.block_lt_of_cell? x2 ⟨w1.heap.size, 0, none⟩ g0
  have t1x2 : w.heap.size + 1 < x2.heap.size := by omega
  have t0x2 : w.heap.size < x2.heap.size := by omega
  replace HBX : Hid (Below w1.heap.size w1 x2) := HBx2.out
  clear HNW HC3
  have HK0 : Hid (rpK d s x = 0) := by show _ = _; rw [HKK.out]; exact rpC_ok HOK3.out
  have HD0 : Hid (rpD d s x = rpN OL d 3) := by show _ = _; rw [HDD.out, if_pos HK0.out]
  have HDL : Hid (DkLil (rpN OL d 3)) := (rp_diskW HRR.out HL.out HOO.out 3 (by rw [HOL2.out]; omega) HOK3.out).2
  obtain ⟨dz, HDZ⟩ : ∃ dz, Hid (rpN OL d 3 = dz) := ⟨_, rfl⟩
  rw [HDZ.out] at HRW3 HDL
  refine (spec_l13Copy _ HRW3.out HDL.out).mono ?_
  rintro e f1 ⟨v1, v2, v3, rfl, ⟨o1, o2, o3⟩, hb⟩
  obtain ⟨M1, q1, rfl, y1, y2⟩ := own_shape o1
  obtain ⟨M2, q2, rfl, y3, y4⟩ := own_shape o2
  obtain ⟨M3, q3, rfl, y5, y6⟩ := own_shape o3
  have HH : Hid (DkHas f1 (w.heap.size + 2) (.agg #[.slice M1 dz.live.length q1, .slice M2 dz.safe.length q2, .slice M3 dz.ops.length q3]) dz) := ⟨_, _, _, rfl, own_mono o1 (by omega), own_mono o2 (by omega), own_mono o3 (by omega)⟩
  have HBF : Hid (Below w.heap.size w f1) := bchain (bchain HB1.out HBX.out) hb
  have j0 := cy hb p0
  have j1 := cy hb p1
  have j2 := cy hb p2
  have jf : ∀ o, f1.frozen? ⟨w.heap.size + 1, o, none⟩ = false := fun o => by
    rw [hb.frozen (p := ⟨w.heap.size + 1, o, none⟩) (by show w.heap.size + 1 < _; omega)]
    exact pf o
  have jl : w.heap.size + 1 < f1.heap.size := World.block_lt_of_cell? f1 ⟨w.heap.size + 1, 0, none⟩ j0
  clear hb o1 o2 o3 y1 y2 y3 y4 y5 y6
  go_wp2_with fail
  refine bodyPost_ret (v := .tuple #[.agg #[.slice M1 dz.live.length q1, .slice M2 dz.safe.length q2, .slice M3 dz.ops.length q3], .int .i64 0]) ?_ rfl ⟨_, by rw [HK0.out], ?_, ?_⟩
  · simp (maxDischargeDepth := 9) [results, Try.results25, go_sem, *]
  · rw [HD0.out, HDZ.out]; exact (((HH.out.set (by omega) _ _).set (by omega) _ _).set (by omega) _ _).mono (by omega)
  · exact below_sa3 HBF.out (by omega) _ _ _
theorem spec_Replace {v : Value} {d : DK} (s x : ByteArray) (w : World) (h : DkRow w v d) (hl : DkLil d) (hs : s.size ≤ 1048576) (hx : x.size ≤ 1048576) :
    Calls Try.prog 25 #[v, .string s, .string x] w fun e w' => ∃ v', e = .returned (.tuple #[v', .int .i64 (rpK d s x)]) ∧ DkHas w' w.heap.size v' (rpD d s x) ∧ Below w.heap.size w w' := by
  cases hd : diskB d with
  | false => exact spec_Replace_no s x w h hl hs hx hd
  | true =>
    cases hb : hasB (newS s) d.live with
    | false => exact spec_Replace_2 s x w h hl hs hx hd hb
    | true => exact spec_Replace_3 s x w h hl hs hx hd hb
end Go.Proofs.Ytanjlpgdmnapdaa
