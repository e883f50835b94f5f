import Derived.Test.YtanjlpgdmnapdaaDdR
import Derived.Test.YtanjlpgdmnapdaaCwR
import Derived.Test.YtanjlpgdmnapdaaLcA
namespace Go.Proofs.Ytanjlpgdmnapdaa
open Go.RowKit Go.Maps
set_option linter.unusedSimpArgs false
set_option linter.unusedVariables false

theorem sy_of (d : DK) : ∃ L, syD d = syL L := by
  cases h : diskB d with
  | true => exact ⟨d.live, by rw [syD, if_pos h]; rfl⟩
  | false => exact ⟨[], by rw [syD, if_neg (by rw [h]; simp)]; rfl⟩
theorem syD_lil {d : DK} (hl : DkLil d) : DkLil (syD d) := by
  cases h : diskB d with
  | true => exact sy_lil h hl
  | false => rw [syD, if_neg (by rw [h]; simp)]; exact dk0_lil
theorem rpK_disk {d : DK} {s x : ByteArray} (h : rpK d s x = 0) : diskB d = true := by
  cases e : diskB d with
  | true => rfl
  | false => rw [rpK, if_neg (by rw [e]; simp)] at h; cases h
theorem cr_lil {d : DK} {ks : List Int} {t : Int} (h : crK d ks t = true) (hD : diskB (crD d ks t) = true) : DkLil (crD d ks t) := by
  have h1 := (disk_parts hD).1
  have h2 := (disk_parts hD).2.1
  have e : (crD d ks t).ops = [] := by rw [crD_yes h]
  refine ⟨files_lil h1, files_lil h2, fun x hx => ?_, ?_, ?_, ?_⟩
  · rw [e] at hx; cases hx
  · have := (files_parts h1).1; omega
  · have := (files_parts h2).1; omega
  · rw [e]; exact Nat.zero_le _
/-- Which places are kept, after so many. -/
def kPart (m : Nat) (b0 b1 : Bool) : List Int := match m with
  | 0 => []
  | 1 => if b0 then [0] else []
  | _ => kTwo b0 b1
theorem kPart_len (m : Nat) (b0 b1 : Bool) : (kPart m b0 b1).length ≤ 2 := by
  unfold kPart
  split <;> cases b0 <;> cases b1 <;> decide
theorem kPart_no {m : Nat} (hm : m < 2) (b0 b1 : Bool) : ∃ c0 c1, kPart m b0 b1 = kPart (m + 1) c0 c1 := by
  have hq : m = 0 ∨ m = 1 := by omega
  rcases hq with rfl | rfl
  · exact ⟨false, false, rfl⟩
  · exact ⟨b0, false, by cases b0 <;> rfl⟩
theorem kPart_yes {m : Nat} (hm : m < 2) (b0 b1 : Bool) : ∃ c0 c1, kPart m b0 b1 ++ [(m : Int)] = kPart (m + 1) c0 c1 := by
  have hq : m = 0 ∨ m = 1 := by omega
  rcases hq with rfl | rfl
  · exact ⟨true, false, rfl⟩
  · exact ⟨b0, true, by cases b0 <;> rfl⟩
set_option maxRecDepth 100000 in
set_option maxHeartbeats 16000000 in
theorem law_FnReplaced (A : Option Addr) (len cap : Nat) (w : World) (hz : Co w A len) :
    Calls Try.prog 5 #[.slice A len cap] w fun e w' => e = .returned (.bool true) ∧ Below w.heap.size w w' := by
  by_cases hbig : (1048576 : Int) < (len : Int)
  · go_enter Try.func5, Try.ntmps5
    go_wp2_with fail
    refine (laws_big A len cap _).mono ?_
    rintro e wq ⟨rfl, hw⟩
    subst wq
    go_wp2_with fail
    go_ret
    exact ⟨rfl, by go_grown⟩
  have HC : Hid (Cd w A len) := ⟨by omega, hz.2⟩
  clear hz
  go_enter Try.func5, Try.ntmps5
  go_wp2_with fail
  refine (laws_big A len cap _).mono ?_
  rintro e wq ⟨rfl, hw⟩
  subst wq
  go_wp2_with fail
  refine (draw_replace A len cap _ HC.out).mono ?_
  rintro e u1 ⟨v, d, s, x, rfl, hrow, hl, hs, hx, hb⟩
  obtain ⟨d1, d2, d3, dc1, dc2, dc3, dn1, dn2, dn3, rfl⟩ := hrow.agg
  have RD : Hid (DkRow u1 (.agg #[.slice d1 dn1 dc1, .slice d2 dn2 dc2, .slice d3 dn3 dc3]) d) := hrow
  have HL : Hid (DkLil d) := hl
  have K : Hid (Below w.heap.size w u1) := hb
  have zw : w.heap.size ≤ u1.heap.size := hb.size
  clear hrow hl hb
  go_wp2_with fail
  obtain ⟨X1, HX1⟩ : ∃ X, Hid (u1.alloc (.cells #[.slice d1 dn1 dc1, .slice d2 dn2 dc2, .slice d3 dn3 dc3] 27) = X) := ⟨_, rfl⟩
  rw [HX1.out]
  have bX1 : Below u1.heap.size u1 X1 := by rw [← HX1.out]; go_grown
  have d_0 : X1.cell? ⟨u1.heap.size, 0, none⟩ = some (.slice d1 dn1 dc1) := by rw [← HX1.out]; go_simp
  have d_1 : X1.cell? ⟨u1.heap.size, 1, none⟩ = some (.slice d2 dn2 dc2) := by rw [← HX1.out]; go_simp
  have d_2 : X1.cell? ⟨u1.heap.size, 2, none⟩ = some (.slice d3 dn3 dc3) := by rw [← HX1.out]; go_simp
  have zd : u1.heap.size < X1.heap.size := by rw [← HX1.out]; simp
  have df : ∀ o, X1.frozen? ⟨u1.heap.size, o, none⟩ = false := fun o => by rw [← HX1.out]; go_simp
  clear HX1
  replace RD : Hid (DkRow X1 (.agg #[.slice d1 dn1 dc1, .slice d2 dn2 dc2, .slice d3 dn3 dc3]) d) := RD.out.below bX1
  replace K : Hid (Below w.heap.size w X1) := bchain K.out bX1
  clear bX1
  have zd0 : u1.heap.size < X1.heap.size := zd
  refine (impl_Sync _ RD.out HL.out).mono ?_
  rintro e u2 ⟨vs, rfl, ho, hb⟩
  replace d_0 := cy hb d_0
  replace d_1 := cy hb d_1
  replace d_2 := cy hb d_2
  replace RD : Hid (DkRow u2 (.agg #[.slice d1 dn1 dc1, .slice d2 dn2 dc2, .slice d3 dn3 dc3]) d) := RD.out.below hb
  replace zd : u1.heap.size < u2.heap.size := Nat.lt_of_lt_of_le zd hb.size
  replace K : Hid (Below w.heap.size w u2) := bchain K.out hb
  replace df : ∀ o, u2.frozen? ⟨u1.heap.size, o, none⟩ = false := fun o => (hb.frozen (p := ⟨u1.heap.size, o, none⟩) zd0).trans (df o)
  obtain ⟨s1, s2, s3, sc1, sc2, sc3, sn1, sn2, sn3, rfl⟩ := ho.row.agg
  obtain ⟨L, hL⟩ := sy_of d
  have HLE : Hid (DkLil (syL L)) := by rw [← hL]; exact syD_lil HL.out
  obtain ⟨X2, HX2⟩ : ∃ X, Hid (((u2.setCell ⟨u1.heap.size, 0, none⟩ (.slice s1 sn1 sc1)).setCell ⟨u1.heap.size, 1, none⟩ (.slice s2 sn2 sc2)).setCell ⟨u1.heap.size, 2, none⟩ (.slice s3 sn3 sc3) = X) := ⟨_, rfl⟩
  have RE : Hid (DkRow X2 (.agg #[.slice s1 sn1 sc1, .slice s2 sn2 sc2, .slice s3 sn3 sc3]) (syL L)) := by
    rw [← HX2.out, ← hL]
    exact (((ho.set zd0 _ _).set zd0 _ _).set zd0 _ _).row
  obtain ⟨e_0, e_1, e_2⟩ := box_cells (v1 := .slice s1 sn1 sc1) (v2 := .slice s2 sn2 sc2) (v3 := .slice s3 sn3 sc3) d_0 d_1 d_2
  have KX : Hid (Below w.heap.size w X2) := by
    rw [← HX2.out]
    exact ((K.out.setCell (by exact zw) _).setCell (by exact zw) _).setCell (by exact zw) _
  have ze : u1.heap.size < X2.heap.size := by rw [← HX2.out]; simpa using zd
  clear ho hb hL zd0
  go_wp2_with fail
  rw [HX2.out] at e_0 e_1 e_2 ⊢
  clear d_0 d_1 d_2 df RD HL zd K HX2 zw
  replace K := KX
  clear KX
  obtain ⟨rk, HRK⟩ : ∃ k, Hid (rpK (syL L) s x = k) := ⟨_, rfl⟩
  refine (impl_Replace s x _ RE.out HLE.out (by omega) (by omega)).mono ?_
  rintro e u3 ⟨va, rfl, ho, hb⟩
  rw [HRK.out]
  replace e_0 := cy hb e_0
  replace e_1 := cy hb e_1
  replace e_2 := cy hb e_2
  replace RE : Hid (DkRow u3 (.agg #[.slice s1 sn1 sc1, .slice s2 sn2 sc2, .slice s3 sn3 sc3]) (syL L)) := RE.out.below hb
  replace ze : u1.heap.size < u3.heap.size := Nat.lt_of_lt_of_le ze hb.size
  replace K : Hid (Below w.heap.size w u3) := bchain K.out hb
  obtain ⟨a1, a2, a3, ac1, ac2, ac3, an1, an2, an3, rfl⟩ := ho.row.agg
  have RA : Hid (DkRow u3 (.agg #[.slice a1 an1 ac1, .slice a2 an2 ac2, .slice a3 an3 ac3]) (rpD (syL L) s x)) := ho.row
  clear hb ho
  go_wp2_with fail
  obtain ⟨X3, HX3⟩ : ∃ X, Hid (u3.alloc (.cells #[.slice a1 an1 ac1, .slice a2 an2 ac2, .slice a3 an3 ac3] 27) = X) := ⟨_, rfl⟩
  rw [HX3.out]
  have bX3 : Below u3.heap.size u3 X3 := by rw [← HX3.out]; go_grown
  have a_0 : X3.cell? ⟨u3.heap.size, 0, none⟩ = some (.slice a1 an1 ac1) := by rw [← HX3.out]; go_simp
  have a_1 : X3.cell? ⟨u3.heap.size, 1, none⟩ = some (.slice a2 an2 ac2) := by rw [← HX3.out]; go_simp
  have a_2 : X3.cell? ⟨u3.heap.size, 2, none⟩ = some (.slice a3 an3 ac3) := by rw [← HX3.out]; go_simp
  have za : u3.heap.size < X3.heap.size := by rw [← HX3.out]; simp
  clear HX3
  replace e_0 := cy bX3 e_0
  replace e_1 := cy bX3 e_1
  replace e_2 := cy bX3 e_2
  replace RE : Hid (DkRow X3 (.agg #[.slice s1 sn1 sc1, .slice s2 sn2 sc2, .slice s3 sn3 sc3]) (syL L)) := RE.out.below bX3
  replace RA : Hid (DkRow X3 (.agg #[.slice a1 an1 ac1, .slice a2 an2 ac2, .slice a3 an3 ac3]) (rpD (syL L) s x)) := RA.out.below bX3
  replace ze : u1.heap.size < X3.heap.size := Nat.lt_of_lt_of_le ze bX3.size
  replace K : Hid (Below w.heap.size w X3) := bchain K.out bX3
  clear bX3
  refine (spec_Replace s x _ RE.out HLE.out (by omega) (by omega)).mono ?_
  rintro e u4 ⟨vb, rfl, ho, hb⟩
  rw [HRK.out]
  replace e_0 := cy hb e_0
  replace e_1 := cy hb e_1
  replace e_2 := cy hb e_2
  replace a_0 := cy hb a_0
  replace a_1 := cy hb a_1
  replace a_2 := cy hb a_2
  replace RE : Hid (DkRow u4 (.agg #[.slice s1 sn1 sc1, .slice s2 sn2 sc2, .slice s3 sn3 sc3]) (syL L)) := RE.out.below hb
  replace RA : Hid (DkRow u4 (.agg #[.slice a1 an1 ac1, .slice a2 an2 ac2, .slice a3 an3 ac3]) (rpD (syL L) s x)) := RA.out.below hb
  replace ze : u1.heap.size < u4.heap.size := Nat.lt_of_lt_of_le ze hb.size
  replace za : u3.heap.size < u4.heap.size := Nat.lt_of_lt_of_le za hb.size
  replace K : Hid (Below w.heap.size w u4) := bchain K.out hb
  obtain ⟨b1, b2, b3, bc1, bc2, bc3, bn1, bn2, bn3, rfl⟩ := ho.row.agg
  clear hb ho
  by_cases hk : rk = 0
  rotate_left
  · go_wp2_with fail
    go_ret
    exact ⟨rfl, K.out.trans (by have := K.out.size; go_grown)⟩
  subst hk
  go_wp2_with fail
  obtain ⟨X4, HX4⟩ : ∃ X, Hid (u4.alloc (.cells #[.slice b1 bn1 bc1, .slice b2 bn2 bc2, .slice b3 bn3 bc3] 27) = X) := ⟨_, rfl⟩
  rw [HX4.out]
  have bX4 : Below u4.heap.size u4 X4 := by rw [← HX4.out]; go_grown
  have zb : u4.heap.size < X4.heap.size := by rw [← HX4.out]; simp
  clear HX4
  replace e_0 := cy bX4 e_0
  replace e_1 := cy bX4 e_1
  replace e_2 := cy bX4 e_2
  replace a_0 := cy bX4 a_0
  replace a_1 := cy bX4 a_1
  replace a_2 := cy bX4 a_2
  replace RE : Hid (DkRow X4 (.agg #[.slice s1 sn1 sc1, .slice s2 sn2 sc2, .slice s3 sn3 sc3]) (syL L)) := RE.out.below bX4
  replace RA : Hid (DkRow X4 (.agg #[.slice a1 an1 ac1, .slice a2 an2 ac2, .slice a3 an3 ac3]) (rpD (syL L) s x)) := RA.out.below bX4
  replace ze : u1.heap.size < X4.heap.size := Nat.lt_of_lt_of_le ze bX4.size
  replace za : u3.heap.size < X4.heap.size := Nat.lt_of_lt_of_le za bX4.size
  replace K : Hid (Below w.heap.size w X4) := bchain K.out bX4
  clear bX4
  clear zb
  obtain ⟨nb, HNB⟩ : ∃ b, Hid (rdB (syL L) (newS s) = b) := ⟨_, rfl⟩
  refine (impl_ReadFile (newS s) _ RE.out HLE.out).mono ?_
  rintro e u5 ⟨rfl, hb⟩
  rw [HNB.out]
  replace e_0 := cy hb e_0
  replace e_1 := cy hb e_1
  replace e_2 := cy hb e_2
  replace a_0 := cy hb a_0
  replace a_1 := cy hb a_1
  replace a_2 := cy hb a_2
  replace RE : Hid (DkRow u5 (.agg #[.slice s1 sn1 sc1, .slice s2 sn2 sc2, .slice s3 sn3 sc3]) (syL L)) := RE.out.below hb
  replace RA : Hid (DkRow u5 (.agg #[.slice a1 an1 ac1, .slice a2 an2 ac2, .slice a3 an3 ac3]) (rpD (syL L) s x)) := RA.out.below hb
  replace ze : u1.heap.size < u5.heap.size := Nat.lt_of_lt_of_le ze hb.size
  replace za : u3.heap.size < u5.heap.size := Nat.lt_of_lt_of_le za hb.size
  replace K : Hid (Below w.heap.size w u5) := bchain K.out hb
  clear hb
  cases nb
  rotate_left
  · go_wp2_with fail
    go_ret
    exact ⟨rfl, K.out⟩
  have HDE : Hid (diskB (syL L) = true) := rpK_disk HRK.out
  have HRP : Hid (Rpd L s x (rpD (syL L) s x)) := (rp_two ((rdB_of _ HDE.out).symm.trans HNB.out) HDE.out HRK.out).1
  have HLA : Hid (DkLil (rpD (syL L) s x)) := HRP.out.lil HLE.out (by omega) (by omega)
  have hn3 : 2 = an3 := by rw [← rp_len HRP.out]; exact RA.out.open3.2.2
  subst hn3
  obtain ⟨os, HOS⟩ : ∃ o, Hid (rdS (syL L) s = o) := ⟨_, rfl⟩
  obtain ⟨ob, HOB⟩ : ∃ o, Hid (rdB (syL L) s = o) := ⟨_, rfl⟩
  go_wp2_with fail
  refine (impl_ReadFile s _ RE.out HLE.out).mono ?_
  rintro e u6 ⟨rfl, hb⟩
  rw [HOS.out, HOB.out]
  replace e_0 := cy hb e_0
  replace e_1 := cy hb e_1
  replace e_2 := cy hb e_2
  replace a_0 := cy hb a_0
  replace a_1 := cy hb a_1
  replace a_2 := cy hb a_2
  replace RE : Hid (DkRow u6 (.agg #[.slice s1 sn1 sc1, .slice s2 sn2 sc2, .slice s3 sn3 sc3]) (syL L)) := RE.out.below hb
  replace RA : Hid (DkRow u6 (.agg #[.slice a1 an1 ac1, .slice a2 an2 ac2, .slice a3 2 ac3]) (rpD (syL L) s x)) := RA.out.below hb
  replace ze : u1.heap.size < u6.heap.size := Nat.lt_of_lt_of_le ze hb.size
  replace za : u3.heap.size < u6.heap.size := Nat.lt_of_lt_of_le za hb.size
  replace K : Hid (Below w.heap.size w u6) := bchain K.out hb
  clear hb
  clear RE e_0 e_1 e_2 ze
  obtain ⟨i0, hi, iz0, iz1, iz2⟩ := info_parts infoI64
  go_wp2_with fail
  go_loopw [14, 15] (fun q i wr => ∃ (m : Nat) (b0 b1 : Bool), m ≤ 2 ∧ i = .int .i64 m ∧ wr.ownsRow u6.heap.size 2 1 q (kPart m b0 b1).length ((kPart m b0 b1).map (Value.int .i64)) ∧ Below u6.heap.size u6 wr) (fun _ i _ => 2 - (intOf i).toNat)
  case atStart => exact ⟨0, false, false, Nat.zero_le _, rfl, own_empty (Nat.le_refl _) rfl, by go_grown⟩
  case round =>
    obtain ⟨m, b0, b1, hm, rfl, hown, hbel⟩ := hrel
    have zr := hbel.size
    have HW : Hid (wr.ownsRow u6.heap.size 2 1 u14 (kPart m b0 b1).length ((kPart m b0 b1).map (Value.int .i64))) := hown
    have HB : Hid (Below u6.heap.size u6 wr) := hbel
    replace a_0 := cy hbel a_0
    replace a_1 := cy hbel a_1
    replace a_2 := cy hbel a_2
    replace RA : Hid (DkRow wr (.agg #[.slice a1 an1 ac1, .slice a2 an2 ac2, .slice a3 2 ac3]) (rpD (syL L) s x)) := RA.out.below hbel
    replace za : u3.heap.size < wr.heap.size := Nat.lt_of_lt_of_le za hbel.size
    replace K : Hid (Below w.heap.size w wr) := bchain K.out hbel
    clear hown hbel
    by_cases hlt : m < 2
    · have h1 : (m : Int) < 2 := by omega
      go_upto_region 17 with fail
      go_cut [95] from 71 to 99 (fun c wx => (∃ c' : Bool, c = .bool c') ∧ wx = wr)
      case first =>
        by_cases hl0 : (0 : Int) < (len : Int)
        · obtain ⟨q, HQ⟩ : ∃ q, Hid (m % len = q) := ⟨_, rfl⟩
          have hqn : q < len := by rw [← HQ.out]; exact Nat.mod_lt _ (by omega)
          have hq1 : Int.tmod (m : Int) (len : Int) = (q : Int) := by rw [← HQ.out]; exact (Int.ofNat_tmod m len).symm
          have hq8 : Int.tmod (m : Int) 8 = (m : Int) := by rw [Int.tmod_eq_emod_of_nonneg (by omega)]; omega
          obtain ⟨b, o, v, rfl, hcell, v0, v1⟩ := (HC.out.below K.out).2 q hqn
          have hcl := lt_of_cell hcell
          have hq2 : (0 : Int) ≤ (q : Int) := by omega
          have hq3 : (q : Int) < (len : Int) := by omega
          have hq4 : ¬ (len : Int) = 0 := by omega
          go_wp2_with fail
          go_meet
          exact ⟨⟨_, rfl⟩, rfl⟩
        · go_wp2_with fail
          go_meet
          exact ⟨⟨_, rfl⟩, rfl⟩
      case rest =>
        obtain ⟨⟨c', rfl⟩, hwc⟩ := hcut
        subst wc
        have hkl := kPart_len m b0 b1
        cases c'
        · go_wp2_with fail
          go_roundw
          case rel =>
            obtain ⟨c0, c1, e9⟩ := kPart_no hlt b0 b1
            exact ⟨m + 1, c0, c1, by omega, by go_num, by rw [← e9]; exact HW.out, HB.out⟩
          case measure => simp [intOf]; omega
        · go_wp2_with (first
            | (at_builtin; (refine wpList_append_own _ rfl _ _ 30 rfl u6.heap.size 2 i0 (.int .i64 0) 1 8 Try.underlying30 hi iz0 iz1 iz2 rfl (by decide) u14 (kPart m b0 b1).length _ rfl (HW.out.alloc _) ⟨wr.heap.size, 0, none⟩ 1 1 [.int .i64 (m : Int)] rfl rfl ?c1 ?c2 ?c3 ?c4 ?c5 ?_))
            | go_in)
          case c1 =>
            intro q u hq
            match q, hq with
            | 0, hq => simp at hq; subst hq; simp [Addr.add]
          case c2 => intro u hu; simp at hu; subst hu; rfl
          case c3 => unfold maxLen; omega
          case c4 => omega
          case c5 => simp; omega
          intro v' w5 hown hg _
          obtain ⟨c0, c1, e9⟩ := kPart_yes hlt b0 b1
          have HO5 : Hid (w5.ownsRow u6.heap.size 2 1 v' (kPart (m + 1) c0 c1).length ((kPart (m + 1) c0 c1).map (Value.int .i64))) := by
            rw [← e9, List.map_append, List.length_append]; exact hown
          have B5 : Hid (Below u6.heap.size u6 w5) := HB.out.trans (grown_al hg zr (fun q e => (HW.out.lt q e.symm).1))
          clear hown hg e9 hkl
          go_wp2_with fail
          go_roundw
          case rel => exact ⟨m + 1, c0, c1, by omega, by go_num, HO5.out, B5.out⟩
          case measure => simp [intOf]; omega
    have h1 : ¬ (m : Int) < 2 := by omega
    obtain rfl : m = 2 := by omega
    obtain ⟨KA, kc, rfl, y1, y2⟩ := own_shape HW.out
    have HIR : Hid (IntRow wr KA (kTwo b0 b1)) := int_of_ownK rfl HW.out
    obtain ⟨t, ht⟩ : ∃ t : Nat, Int.tmod (len : Int) 4 = (t : Int) := ⟨len % 4, (Int.ofNat_tmod len 4).symm⟩
    have ht3 : t < 4 := by have h9 : ((len % 4 : Nat) : Int) = (t : Int) := (Int.ofNat_tmod len 4).trans ht; omega
    have HCR : Hid (crK (rpD (syL L) s x) (kTwo b0 b1) (t : Int) = true ∧ diskB (crD (rpD (syL L) s x) (kTwo b0 b1) (t : Int)) = true ∧ (rdB (crD (rpD (syL L) s x) (kTwo b0 b1) (t : Int)) s = ob ∧ rdS (crD (rpD (syL L) s x) (kTwo b0 b1) (t : Int)) s = os ∨ rdB (crD (rpD (syL L) s x) (kTwo b0 b1) (t : Int)) s = true ∧ rdS (crD (rpD (syL L) s x) (kTwo b0 b1) (t : Int)) s = x)) := by
      have h9 := cr_two HRP.out b0 b1 (t := (t : Int)) (by omega)
      rw [← HOB.out, ← HOS.out, rdB_of _ HDE.out, rdS_of _ HDE.out]
      exact h9
    have hkl : (kTwo b0 b1).length ≤ 2 := kPart_len 2 b0 b1
    have hk0 : (kPart 2 b0 b1).length = (kTwo b0 b1).length := rfl
    clear y1 y2 hi iz0 iz1 iz2 HB zr HW hlt hm
    go_wp2_with fail
    refine (impl_Crash (cap := kc) (t : Int) _ RA.out HLA.out HIR.out (by omega) (by omega)).mono ?_
    rintro e u7 ⟨vc, rfl, ho, hb⟩
    rw [HCR.out.1]
    replace a_0 := cy hb a_0
    replace a_1 := cy hb a_1
    replace a_2 := cy hb a_2
    replace RA : Hid (DkRow u7 (.agg #[.slice a1 an1 ac1, .slice a2 an2 ac2, .slice a3 2 ac3]) (rpD (syL L) s x)) := RA.out.below hb
    replace za : u3.heap.size < u7.heap.size := Nat.lt_of_lt_of_le za hb.size
    replace K : Hid (Below w.heap.size w u7) := bchain K.out hb
    obtain ⟨c1, c2, c3, cc1, cc2, cc3, cn1, cn2, cn3, rfl⟩ := ho.row.agg
    have RC : Hid (DkRow u7 (.agg #[.slice c1 cn1 cc1, .slice c2 cn2 cc2, .slice c3 cn3 cc3]) (crD (rpD (syL L) s x) (kTwo b0 b1) (t : Int))) := ho.row
    have HLC : Hid (DkLil (crD (rpD (syL L) s x) (kTwo b0 b1) (t : Int))) := cr_lil HCR.out.1 HCR.out.2.1
    clear hb ho HIR
    go_wp2_with fail
    obtain ⟨X7, HX7⟩ : ∃ X, Hid (u7.alloc (.cells #[.slice c1 cn1 cc1, .slice c2 cn2 cc2, .slice c3 cn3 cc3] 27) = X) := ⟨_, rfl⟩
    rw [HX7.out]
    have bX7 : Below u7.heap.size u7 X7 := by rw [← HX7.out]; go_grown
    have c_0 : X7.cell? ⟨u7.heap.size, 0, none⟩ = some (.slice c1 cn1 cc1) := by rw [← HX7.out]; go_simp
    have c_1 : X7.cell? ⟨u7.heap.size, 1, none⟩ = some (.slice c2 cn2 cc2) := by rw [← HX7.out]; go_simp
    have c_2 : X7.cell? ⟨u7.heap.size, 2, none⟩ = some (.slice c3 cn3 cc3) := by rw [← HX7.out]; go_simp
    have zc : u7.heap.size < X7.heap.size := by rw [← HX7.out]; simp
    clear HX7
    replace a_0 := cy bX7 a_0
    replace a_1 := cy bX7 a_1
    replace a_2 := cy bX7 a_2
    replace RA : Hid (DkRow X7 (.agg #[.slice a1 an1 ac1, .slice a2 an2 ac2, .slice a3 2 ac3]) (rpD (syL L) s x)) := RA.out.below bX7
    replace RC : Hid (DkRow X7 (.agg #[.slice c1 cn1 cc1, .slice c2 cn2 cc2, .slice c3 cn3 cc3]) (crD (rpD (syL L) s x) (kTwo b0 b1) (t : Int))) := RC.out.below bX7
    replace za : u3.heap.size < X7.heap.size := Nat.lt_of_lt_of_le za bX7.size
    replace K : Hid (Below w.heap.size w X7) := bchain K.out bX7
    clear bX7
    obtain ⟨cs, HCS⟩ : ∃ o, Hid (rdS (crD (rpD (syL L) s x) (kTwo b0 b1) (t : Int)) s = o) := ⟨_, rfl⟩
    obtain ⟨cb, HCB⟩ : ∃ o, Hid (rdB (crD (rpD (syL L) s x) (kTwo b0 b1) (t : Int)) s = o) := ⟨_, rfl⟩
    refine (impl_ReadFile s _ RC.out HLC.out).mono ?_
    rintro e u8 ⟨rfl, hb⟩
    rw [HCS.out, HCB.out]
    replace a_0 := cy hb a_0
    replace a_1 := cy hb a_1
    replace a_2 := cy hb a_2
    replace c_0 := cy hb c_0
    replace c_1 := cy hb c_1
    replace c_2 := cy hb c_2
    replace RA : Hid (DkRow u8 (.agg #[.slice a1 an1 ac1, .slice a2 an2 ac2, .slice a3 2 ac3]) (rpD (syL L) s x)) := RA.out.below hb
    replace RC : Hid (DkRow u8 (.agg #[.slice c1 cn1 cc1, .slice c2 cn2 cc2, .slice c3 cn3 cc3]) (crD (rpD (syL L) s x) (kTwo b0 b1) (t : Int))) := RC.out.below hb
    replace za : u3.heap.size < u8.heap.size := Nat.lt_of_lt_of_le za hb.size
    replace zc : u7.heap.size < u8.heap.size := Nat.lt_of_lt_of_le zc hb.size
    replace K : Hid (Below w.heap.size w u8) := bchain K.out hb
    clear hb
    go_wp2_with fail
    refine (impl_ReadFile s _ RA.out HLA.out).mono ?_
    rintro e u9 ⟨rfl, hb⟩
    rw [(live_now HRP.out).1, (live_now HRP.out).2]
    replace a_0 := cy hb a_0
    replace a_1 := cy hb a_1
    replace a_2 := cy hb a_2
    replace c_0 := cy hb c_0
    replace c_1 := cy hb c_1
    replace c_2 := cy hb c_2
    replace RA : Hid (DkRow u9 (.agg #[.slice a1 an1 ac1, .slice a2 an2 ac2, .slice a3 2 ac3]) (rpD (syL L) s x)) := RA.out.below hb
    replace RC : Hid (DkRow u9 (.agg #[.slice c1 cn1 cc1, .slice c2 cn2 cc2, .slice c3 cn3 cc3]) (crD (rpD (syL L) s x) (kTwo b0 b1) (t : Int))) := RC.out.below hb
    replace za : u3.heap.size < u9.heap.size := Nat.lt_of_lt_of_le za hb.size
    replace zc : u7.heap.size < u9.heap.size := Nat.lt_of_lt_of_le zc hb.size
    replace K : Hid (Below w.heap.size w u9) := bchain K.out hb
    clear hb
    have hend : (cb = ob ∧ cs = os) ∨ (cb = true ∧ cs = x) := by
      have h9 := HCR.out.2.2
      rw [HCS.out, HCB.out] at h9
      exact h9
    have hxx : (x.toList == x.toList) = true := str_eq rfl
    rcases hend with ⟨rfl, rfl⟩ | ⟨rfl, rfl⟩
    · have hcc : (cs.toList == cs.toList) = true := str_eq rfl
      have hbb : (cb == cb) = true := by simp
      cases cb
      all_goals
        go_wp2_with fail
        go_ret
        exact ⟨rfl, K.out⟩
    · cases ob <;> cases e9 : (cs.toList == os.toList)
      all_goals
        go_wp2_with fail
        go_ret
        exact ⟨rfl, K.out⟩
end Go.Proofs.Ytanjlpgdmnapdaa
