import Derived.Test.YtanjlpgdmnapdaaLcA
namespace Go.Proofs.Ytanjlpgdmnapdaa
open Go.RowKit Go.Maps
set_option linter.unusedSimpArgs false
set_option linter.unusedVariables false

set_option maxRecDepth 100000 in
set_option maxHeartbeats 16000000 in
theorem law_FnCrashed (A : Option Addr) (len cap : Nat) (w : World) (hz : Co w A len) :
    Calls Try.prog 3 #[.slice A len cap] w fun e w' => e = .returned (.bool true) ∧ Below w.heap.size w w' := by
  by_cases hbig : (1048576 : Int) < (len : Int)
  · go_enter Try.func3, Try.ntmps3
    go_wp2_with fail
    refine (laws_big A len cap _).mono ?_
    rintro e wq ⟨rfl, hw⟩
    subst wq
    go_wp2_with fail
    go_ret
    exact ⟨rfl, by go_grown⟩
  have HC : Hid (Cd w A len) := ⟨by omega, hz.2⟩
  clear hz
  go_enter Try.func3, Try.ntmps3
  go_wp2_with fail
  refine (laws_big A len cap _).mono ?_
  rintro e wq ⟨rfl, hw⟩
  subst wq
  go_wp2_with fail
  refine (draw_diskOk A len cap _ HC.out).mono ?_
  rintro e u1 ⟨v, d, rfl, hrow, hl, hb⟩
  obtain ⟨d1, d2, d3, dc1, dc2, dc3, dn1, dn2, dn3, rfl⟩ := hrow.row.agg
  have RD : Hid (DkRow u1 (.agg #[.slice d1 dn1 dc1, .slice d2 dn2 dc2, .slice d3 dn3 dc3]) d) := hrow.row
  have HL : Hid (DkLil d) := hl
  have K : Hid (Below w.heap.size w u1) := hb
  have HD : Hid ((d.live.length = dn1) ∧ d.safe.length = dn2 ∧ d.ops.length = dn3) := ⟨hrow.row.open3.1.2, hrow.row.open3.2.1.2, hrow.row.open3.2.2⟩
  have hn3 : dn3 ≤ 1048576 := by rw [← HD.out.2.2]; exact hl.n3
  have H1 : Hid (FiRow u1 d1 d.live) := hrow.row.open3.1.1
  have H2 : Hid (FiRow u1 d2 d.safe) := hrow.row.open3.2.1.1
  clear hrow hl hb HC
  obtain ⟨db, HDB⟩ : ∃ db, Hid (diskB d = db) := ⟨_, rfl⟩
  go_wp2_with fail
  obtain ⟨X1, HX1⟩ : ∃ X, Hid (u1.alloc (.cells #[.slice d1 dn1 dc1, .slice d2 dn2 dc2, .slice d3 dn3 dc3] 27) = X) := ⟨_, rfl⟩
  rw [HX1.out]
  have bX1 : Below u1.heap.size u1 X1 := by rw [← HX1.out]; go_grown
  have d_0 : X1.cell? ⟨u1.heap.size, 0, none⟩ = some (.slice d1 dn1 dc1) := by rw [← HX1.out]; go_simp
  have d_1 : X1.cell? ⟨u1.heap.size, 1, none⟩ = some (.slice d2 dn2 dc2) := by rw [← HX1.out]; go_simp
  have d_2 : X1.cell? ⟨u1.heap.size, 2, none⟩ = some (.slice d3 dn3 dc3) := by rw [← HX1.out]; go_simp
  have zd : u1.heap.size < X1.heap.size := by rw [← HX1.out]; simp
  clear HX1
  replace RD : Hid (DkRow X1 (.agg #[.slice d1 dn1 dc1, .slice d2 dn2 dc2, .slice d3 dn3 dc3]) d) := RD.out.below bX1
  replace H1 : Hid (FiRow X1 d1 d.live) := H1.out.below bX1
  replace H2 : Hid (FiRow X1 d2 d.safe) := H2.out.below bX1
  replace K : Hid (Below w.heap.size w X1) := bchain K.out bX1
  clear bX1
  go_region_held3 (fun w' => (∀ bq oq, bq < X1.heap.size → w'.cell? ⟨bq, oq, none⟩ = X1.cell? ⟨bq, oq, none⟩) ∧ X1.heap.size ≤ w'.heap.size ∧ Below X1.heap.size X1 w')
    (exact sc_of (by simp) (by go_grown))
    (first
    | (go_at_call 14; refine (impl_DiskOk _ (RD.out.below (by go_grown)) HL.out).mono ?_; rintro e y6 ⟨rfl, hb⟩; rw [HDB.out]; obtain ⟨hk6, hz6⟩ := bframe (B := X1.heap.size) (X := X1) (by go_grown) (by go_size) hb; clear hb)
    | (go_at_call 15; refine (spec_DiskOk _ (RD.out.below (Below.trans (by go_grown) (hk6.mono (by omega)))) HL.out).mono ?_; rintro e u2 ⟨rfl, hb⟩; rw [HDB.out]; obtain ⟨hk7, hz7⟩ := bframe (B := X1.heap.size) (X := X1) hk6 hz6 hb; clear hb))
  have hb : Below X1.heap.size X1 u2 := hk7
  clear hk6 hk7 hz6 hz7
  replace d_0 := cy hb d_0
  replace d_1 := cy hb d_1
  replace d_2 := cy hb d_2
  replace RD : Hid (DkRow u2 (.agg #[.slice d1 dn1 dc1, .slice d2 dn2 dc2, .slice d3 dn3 dc3]) d) := RD.out.below hb
  replace H1 : Hid (FiRow u2 d1 d.live) := H1.out.below hb
  replace H2 : Hid (FiRow u2 d2 d.safe) := H2.out.below hb
  replace zd : u1.heap.size < u2.heap.size := Nat.lt_of_lt_of_le zd hb.size
  replace K : Hid (Below w.heap.size w u2) := bchain K.out hb
  have hdb : (db != db) = false := by simp
  clear hb
  obtain ⟨i0, hi, iz0, iz1, iz2⟩ := info_parts infoI64
  go_wp2_with fail
  go_loopw [4, 5] (fun q i wr => ∃ m : Nat, m ≤ dn3 ∧ i = .int .i64 m ∧ wr.ownsRow u2.heap.size 2 1 q m ((allK m).map (Value.int .i64)) ∧ Below u2.heap.size u2 wr) (fun _ i _ => dn3 - (intOf i).toNat)
  case atStart => exact ⟨0, Nat.zero_le _, rfl, own_empty (Nat.le_refl _) rfl, by go_grown⟩
  case round =>
    obtain ⟨m, hm, rfl, hown, hbel⟩ := hrel
    have HW : Hid (wr.ownsRow u2.heap.size 2 1 u4 m ((allK m).map (Value.int .i64))) := hown
    have HB : Hid (Below u2.heap.size u2 wr) := hbel
    have zr := hbel.size
    replace d_0 := cy hbel d_0
    replace d_1 := cy hbel d_1
    replace d_2 := cy hbel d_2
    replace RD : Hid (DkRow wr (.agg #[.slice d1 dn1 dc1, .slice d2 dn2 dc2, .slice d3 dn3 dc3]) d) := RD.out.below hbel
    replace H1 : Hid (FiRow wr d1 d.live) := H1.out.below hbel
    replace H2 : Hid (FiRow wr d2 d.safe) := H2.out.below hbel
    replace zd : u1.heap.size < wr.heap.size := Nat.lt_of_lt_of_le zd hbel.size
    replace K : Hid (Below w.heap.size w wr) := bchain K.out hbel
    clear hown hbel
    by_cases hlt : m < dn3
    · have h1 : (m : Int) < (dn3 : Int) := by omega
      go_wp2_with (first
        | (at_builtin; (refine wpList_append_own _ rfl _ _ 30 rfl u2.heap.size 2 i0 (.int .i64 0) 1 8 Try.underlying30 hi iz0 iz1 iz2 rfl (by decide) u4 m _ rfl (HW.out.alloc _) ⟨wr.heap.size, 0, none⟩ 1 1 [.int .i64 (m : Int)] rfl rfl ?c1 ?c2 ?c3 ?c4 ?c5 ?_))
        | go_in)
      case c1 =>
        intro q u hq
        match q, hq with
        | 0, hq => simp at hq; subst hq; simp [Addr.add]
      case c2 => intro u hu; simp at hu; subst hu; rfl
      case c3 => unfold maxLen; omega
      case c4 => omega
      case c5 => simp; omega
      intro v' w5 hown hg _
      have HO5 : Hid (w5.ownsRow u2.heap.size 2 1 v' (m + 1) ((allK (m + 1)).map (Value.int .i64))) := by rw [allK_snoc, List.map_append]; exact hown
      have B5 : Hid (Below u2.heap.size u2 w5) := HB.out.trans (grown_al hg zr (fun q e => (HW.out.lt q e.symm).1))
      clear hown hg
      go_wp2_with fail
      go_roundw
      case rel => exact ⟨m + 1, by omega, by go_num, HO5.out, B5.out⟩
      case measure => simp [intOf]; omega
    have h1 : ¬ (m : Int) < (dn3 : Int) := by omega
    obtain rfl : m = dn3 := by omega
    obtain ⟨KA, kc, rfl, y1, y2⟩ := own_shape HW.out
    have HIR : Hid (IntRow wr KA (allK m)) := int_of_ownK (allK_len m) HW.out
    have HLK : Hid (∀ x ∈ d.ops, (x.d.size : Int) ≤ 1099511627776) := lil_ops HL.out
    have HCA : Hid (∀ (w : World) (v : Value), DkRow w v d → IntRow w KA (allK m) → Calls Try.prog 16 #[v, .slice KA m kc, .int .i64 1099511627776] w fun e w' => ∃ v', e = .returned (.tuple #[v', .bool db]) ∧ DkOwn w' w.heap.size v' (crD d (allK m) 1099511627776) ∧ Below w.heap.size w w') := by
      show ∀ (w : World) (v : Value), _
      intro w v h1 h2
      have h9 := impl_Crash (cap := kc) 1099511627776 w h1 HL.out h2 (by rw [allK_len]; omega) (by omega)
      rw [allK_len] at h9
      have e9 : crK d (allK m) 1099511627776 = db := by rw [← HD.out.2.2, crK_all (by omega) HLK.out]; exact HDB.out
      rwa [e9] at h9
    have HCN : Hid (∀ (w : World) (v : Value), DkRow w v d → Calls Try.prog 16 #[v, .slice none 0 0, .int .i64 0] w fun e w' => ∃ v', e = .returned (.tuple #[v', .bool db]) ∧ DkOwn w' w.heap.size v' (crD d [] 0) ∧ Below w.heap.size w w') := by
      show ∀ (w : World) (v : Value), _
      intro w v h1
      have h9 := impl_Crash (A := none) (cap := 0) (ks := []) 0 w h1 HL.out ⟨Nat.zero_le _, fun i hi => absurd hi (Nat.not_lt_zero _)⟩ (Nat.zero_le _) (by omega)
      have e9 : crK d [] 0 = db := by rw [crK_none (by omega)]; exact HDB.out
      rwa [e9] at h9
    clear y1 y2 hi iz0 iz1 iz2 HB zr HW hlt hm
    go_wp2_with fail
    refine (HCA.out _ _ RD.out HIR.out).mono ?_
    rintro e u5 ⟨va, rfl, ho, hb⟩
    replace d_0 := cy hb d_0
    replace d_1 := cy hb d_1
    replace d_2 := cy hb d_2
    replace RD : Hid (DkRow u5 (.agg #[.slice d1 dn1 dc1, .slice d2 dn2 dc2, .slice d3 m dc3]) d) := RD.out.below hb
    replace H1 : Hid (FiRow u5 d1 d.live) := H1.out.below hb
    replace H2 : Hid (FiRow u5 d2 d.safe) := H2.out.below hb
    replace zd : u1.heap.size < u5.heap.size := Nat.lt_of_lt_of_le zd hb.size
    replace K : Hid (Below w.heap.size w u5) := bchain K.out hb
    obtain ⟨a1, a2, a3, ac1, ac2, ac3, an1, an2, an3, rfl⟩ := ho.row.agg
    have RA : Hid (DkRow u5 (.agg #[.slice a1 an1 ac1, .slice a2 an2 ac2, .slice a3 an3 ac3]) (crD d (allK m) 1099511627776)) := ho.row
    clear hb ho HIR HCA
    go_wp2_with fail
    obtain ⟨X5, HX5⟩ : ∃ X, Hid (u5.alloc (.cells #[.slice a1 an1 ac1, .slice a2 an2 ac2, .slice a3 an3 ac3] 27) = X) := ⟨_, rfl⟩
    rw [HX5.out]
    have bX5 : Below u5.heap.size u5 X5 := by rw [← HX5.out]; go_grown
    have a_0 : X5.cell? ⟨u5.heap.size, 0, none⟩ = some (.slice a1 an1 ac1) := by rw [← HX5.out]; go_simp
    have a_1 : X5.cell? ⟨u5.heap.size, 1, none⟩ = some (.slice a2 an2 ac2) := by rw [← HX5.out]; go_simp
    have a_2 : X5.cell? ⟨u5.heap.size, 2, none⟩ = some (.slice a3 an3 ac3) := by rw [← HX5.out]; go_simp
    have za : u5.heap.size < X5.heap.size := by rw [← HX5.out]; simp
    clear HX5
    replace d_0 := cy bX5 d_0
    replace d_1 := cy bX5 d_1
    replace d_2 := cy bX5 d_2
    replace RD : Hid (DkRow X5 (.agg #[.slice d1 dn1 dc1, .slice d2 dn2 dc2, .slice d3 m dc3]) d) := RD.out.below bX5
    replace H1 : Hid (FiRow X5 d1 d.live) := H1.out.below bX5
    replace H2 : Hid (FiRow X5 d2 d.safe) := H2.out.below bX5
    replace RA : Hid (DkRow X5 (.agg #[.slice a1 an1 ac1, .slice a2 an2 ac2, .slice a3 an3 ac3]) (crD d (allK m) 1099511627776)) := RA.out.below bX5
    replace zd : u1.heap.size < X5.heap.size := Nat.lt_of_lt_of_le zd bX5.size
    replace K : Hid (Below w.heap.size w X5) := bchain K.out bX5
    clear bX5
    refine (HCN.out _ _ RD.out).mono ?_
    rintro e u6 ⟨vb, rfl, ho, hb⟩
    replace d_0 := cy hb d_0
    replace d_1 := cy hb d_1
    replace d_2 := cy hb d_2
    replace a_0 := cy hb a_0
    replace a_1 := cy hb a_1
    replace a_2 := cy hb a_2
    replace RD : Hid (DkRow u6 (.agg #[.slice d1 dn1 dc1, .slice d2 dn2 dc2, .slice d3 m dc3]) d) := RD.out.below hb
    replace H1 : Hid (FiRow u6 d1 d.live) := H1.out.below hb
    replace H2 : Hid (FiRow u6 d2 d.safe) := H2.out.below hb
    replace RA : Hid (DkRow u6 (.agg #[.slice a1 an1 ac1, .slice a2 an2 ac2, .slice a3 an3 ac3]) (crD d (allK m) 1099511627776)) := RA.out.below hb
    replace zd : u1.heap.size < u6.heap.size := Nat.lt_of_lt_of_le zd hb.size
    replace za : u5.heap.size < u6.heap.size := Nat.lt_of_lt_of_le za hb.size
    replace K : Hid (Below w.heap.size w u6) := bchain K.out hb
    obtain ⟨b1, b2, b3, bc1, bc2, bc3, bn1, bn2, bn3, rfl⟩ := ho.row.agg
    have RB : Hid (DkRow u6 (.agg #[.slice b1 bn1 bc1, .slice b2 bn2 bc2, .slice b3 bn3 bc3]) (crD d [] 0)) := ho.row
    clear hb ho HCN
    go_wp2_with fail
    obtain ⟨X6, HX6⟩ : ∃ X, Hid (u6.alloc (.cells #[.slice b1 bn1 bc1, .slice b2 bn2 bc2, .slice b3 bn3 bc3] 27) = X) := ⟨_, rfl⟩
    rw [HX6.out]
    have bX6 : Below u6.heap.size u6 X6 := by rw [← HX6.out]; go_grown
    have b_0 : X6.cell? ⟨u6.heap.size, 0, none⟩ = some (.slice b1 bn1 bc1) := by rw [← HX6.out]; go_simp
    have b_1 : X6.cell? ⟨u6.heap.size, 1, none⟩ = some (.slice b2 bn2 bc2) := by rw [← HX6.out]; go_simp
    have b_2 : X6.cell? ⟨u6.heap.size, 2, none⟩ = some (.slice b3 bn3 bc3) := by rw [← HX6.out]; go_simp
    have zb : u6.heap.size < X6.heap.size := by rw [← HX6.out]; simp
    clear HX6
    replace d_0 := cy bX6 d_0
    replace d_1 := cy bX6 d_1
    replace d_2 := cy bX6 d_2
    replace a_0 := cy bX6 a_0
    replace a_1 := cy bX6 a_1
    replace a_2 := cy bX6 a_2
    replace RD : Hid (DkRow X6 (.agg #[.slice d1 dn1 dc1, .slice d2 dn2 dc2, .slice d3 m dc3]) d) := RD.out.below bX6
    replace H1 : Hid (FiRow X6 d1 d.live) := H1.out.below bX6
    replace H2 : Hid (FiRow X6 d2 d.safe) := H2.out.below bX6
    replace RA : Hid (DkRow X6 (.agg #[.slice a1 an1 ac1, .slice a2 an2 ac2, .slice a3 an3 ac3]) (crD d (allK m) 1099511627776)) := RA.out.below bX6
    replace RB : Hid (DkRow X6 (.agg #[.slice b1 bn1 bc1, .slice b2 bn2 bc2, .slice b3 bn3 bc3]) (crD d [] 0)) := RB.out.below bX6
    replace zd : u1.heap.size < X6.heap.size := Nat.lt_of_lt_of_le zd bX6.size
    replace za : u5.heap.size < X6.heap.size := Nat.lt_of_lt_of_le za bX6.size
    replace K : Hid (Below w.heap.size w X6) := bchain K.out bX6
    clear bX6
    refine (impl_DiskOk _ RD.out HL.out).mono ?_
    rintro e u7 ⟨rfl, hb⟩
    rw [HDB.out]
    replace d_0 := cy hb d_0
    replace d_1 := cy hb d_1
    replace d_2 := cy hb d_2
    replace a_0 := cy hb a_0
    replace a_1 := cy hb a_1
    replace a_2 := cy hb a_2
    replace b_0 := cy hb b_0
    replace b_1 := cy hb b_1
    replace b_2 := cy hb b_2
    replace RD : Hid (DkRow u7 (.agg #[.slice d1 dn1 dc1, .slice d2 dn2 dc2, .slice d3 m dc3]) d) := RD.out.below hb
    replace H1 : Hid (FiRow u7 d1 d.live) := H1.out.below hb
    replace H2 : Hid (FiRow u7 d2 d.safe) := H2.out.below hb
    replace RA : Hid (DkRow u7 (.agg #[.slice a1 an1 ac1, .slice a2 an2 ac2, .slice a3 an3 ac3]) (crD d (allK m) 1099511627776)) := RA.out.below hb
    replace RB : Hid (DkRow u7 (.agg #[.slice b1 bn1 bc1, .slice b2 bn2 bc2, .slice b3 bn3 bc3]) (crD d [] 0)) := RB.out.below hb
    replace zd : u1.heap.size < u7.heap.size := Nat.lt_of_lt_of_le zd hb.size
    replace za : u5.heap.size < u7.heap.size := Nat.lt_of_lt_of_le za hb.size
    replace zb : u6.heap.size < u7.heap.size := Nat.lt_of_lt_of_le zb hb.size
    replace K : Hid (Below w.heap.size w u7) := bchain K.out hb
    clear hb
    cases db
    · have han : an1 = 0 := by
        have e9 : crD d (allK m) 1099511627776 = dk0 := crD_no (crK_no (Or.inl HDB.out))
        have h9 := RA.out
        rw [e9] at h9
        exact h9.open3.1.2.symm
      subst han
      go_wp2_with fail
      go_ret
      exact ⟨rfl, K.out⟩
    have HAA : Hid ((FiRow u7 a1 d.live ∧ d.live.length = an1) ∧ (FiRow u7 a2 d.live ∧ d.live.length = an2) ∧ 0 = an3) := by
      have h9 := RA.out
      rw [← HD.out.2.2, crD_all (by omega) HLK.out HDB.out] at h9
      exact h9.open3
    have HBB : Hid ((FiRow u7 b1 d.safe ∧ d.safe.length = bn1) ∧ (FiRow u7 b2 d.safe ∧ d.safe.length = bn2) ∧ 0 = bn3) := by
      have h9 := RB.out
      rw [crD_none (by omega) HDB.out] at h9
      exact h9.open3
    have HA1 : Hid (FiRow u7 a1 d.live) := HAA.out.1.1
    have HA2 : Hid (FiRow u7 a2 d.live) := HAA.out.2.1.1
    have HB1 : Hid (FiRow u7 b1 d.safe) := HBB.out.1.1
    have HN : Hid (d.live.length = an1 ∧ d.live.length = an2 ∧ d.safe.length = bn1) := ⟨HAA.out.1.2, HAA.out.2.1.2, HBB.out.1.2⟩
    obtain rfl : 0 = an3 := HAA.out.2.2
    obtain rfl : 0 = bn3 := HBB.out.2.2
    clear HAA HBB HLK
    clear RA RB
    go_wp2_with fail
    refine (impl_Sync _ RD.out HL.out).mono ?_
    rintro e u8 ⟨vs, rfl, ho, hb⟩
    replace d_0 := cy hb d_0
    replace d_1 := cy hb d_1
    replace d_2 := cy hb d_2
    replace a_0 := cy hb a_0
    replace a_1 := cy hb a_1
    replace a_2 := cy hb a_2
    replace b_0 := cy hb b_0
    replace b_1 := cy hb b_1
    replace b_2 := cy hb b_2
    replace RD : Hid (DkRow u8 (.agg #[.slice d1 dn1 dc1, .slice d2 dn2 dc2, .slice d3 m dc3]) d) := RD.out.below hb
    replace H1 : Hid (FiRow u8 d1 d.live) := H1.out.below hb
    replace H2 : Hid (FiRow u8 d2 d.safe) := H2.out.below hb
    replace HA1 : Hid (FiRow u8 a1 d.live) := HA1.out.below hb
    replace HA2 : Hid (FiRow u8 a2 d.live) := HA2.out.below hb
    replace HB1 : Hid (FiRow u8 b1 d.safe) := HB1.out.below hb
    replace zd : u1.heap.size < u8.heap.size := Nat.lt_of_lt_of_le zd hb.size
    replace za : u5.heap.size < u8.heap.size := Nat.lt_of_lt_of_le za hb.size
    replace zb : u6.heap.size < u8.heap.size := Nat.lt_of_lt_of_le zb hb.size
    replace K : Hid (Below w.heap.size w u8) := bchain K.out hb
    obtain ⟨s1, s2, s3, sc1, sc2, sc3, sn1, sn2, sn3, rfl⟩ := ho.row.agg
    have HSS : Hid ((FiRow u8 s1 d.live ∧ d.live.length = sn1) ∧ (FiRow u8 s2 d.live ∧ d.live.length = sn2) ∧ 0 = sn3) := by
      have h9 := ho.row
      rw [syD, if_pos HDB.out] at h9
      exact h9.open3
    have HS2 : Hid (FiRow u8 s2 d.live) := HSS.out.2.1.1
    have HNS : Hid (d.live.length = sn2) := HSS.out.2.1.2
    obtain rfl : 0 = sn3 := HSS.out.2.2
    clear hb ho HSS
    go_wp2_with fail
    clear RD
    obtain ⟨X8, HX8⟩ : ∃ X, Hid (u8.alloc (.cells #[.slice s1 sn1 sc1, .slice s2 sn2 sc2, .slice s3 0 sc3] 27) = X) := ⟨_, rfl⟩
    rw [HX8.out]
    have bX8 : Below u8.heap.size u8 X8 := by rw [← HX8.out]; go_grown
    have s_0 : X8.cell? ⟨u8.heap.size, 0, none⟩ = some (.slice s1 sn1 sc1) := by rw [← HX8.out]; go_simp
    have s_1 : X8.cell? ⟨u8.heap.size, 1, none⟩ = some (.slice s2 sn2 sc2) := by rw [← HX8.out]; go_simp
    have s_2 : X8.cell? ⟨u8.heap.size, 2, none⟩ = some (.slice s3 0 sc3) := by rw [← HX8.out]; go_simp
    have zs : u8.heap.size < X8.heap.size := by rw [← HX8.out]; simp
    clear HX8
    replace d_0 := cy bX8 d_0
    replace d_1 := cy bX8 d_1
    replace d_2 := cy bX8 d_2
    replace a_0 := cy bX8 a_0
    replace a_1 := cy bX8 a_1
    replace a_2 := cy bX8 a_2
    replace b_0 := cy bX8 b_0
    replace b_1 := cy bX8 b_1
    replace b_2 := cy bX8 b_2
    replace H1 : Hid (FiRow X8 d1 d.live) := H1.out.below bX8
    replace H2 : Hid (FiRow X8 d2 d.safe) := H2.out.below bX8
    replace HA1 : Hid (FiRow X8 a1 d.live) := HA1.out.below bX8
    replace HA2 : Hid (FiRow X8 a2 d.live) := HA2.out.below bX8
    replace HB1 : Hid (FiRow X8 b1 d.safe) := HB1.out.below bX8
    replace HS2 : Hid (FiRow X8 s2 d.live) := HS2.out.below bX8
    replace zd : u1.heap.size < X8.heap.size := Nat.lt_of_lt_of_le zd bX8.size
    replace za : u5.heap.size < X8.heap.size := Nat.lt_of_lt_of_le za bX8.size
    replace zb : u6.heap.size < X8.heap.size := Nat.lt_of_lt_of_le zb bX8.size
    replace K : Hid (Below w.heap.size w X8) := bchain K.out bX8
    clear bX8
    refine (laws_sameFiles _ HA1.out H1.out HN.out.1 HD.out.1).mono ?_
    rintro e u9 ⟨rfl, hb⟩
    rw [sameB_iff.2 rfl]
    clear HA1 a_0
    replace d_0 := cy hb d_0
    replace d_1 := cy hb d_1
    replace d_2 := cy hb d_2
    replace a_1 := cy hb a_1
    replace a_2 := cy hb a_2
    replace b_0 := cy hb b_0
    replace b_1 := cy hb b_1
    replace b_2 := cy hb b_2
    replace s_0 := cy hb s_0
    replace s_1 := cy hb s_1
    replace s_2 := cy hb s_2
    replace H1 : Hid (FiRow u9 d1 d.live) := H1.out.below hb
    replace H2 : Hid (FiRow u9 d2 d.safe) := H2.out.below hb
    replace HA2 : Hid (FiRow u9 a2 d.live) := HA2.out.below hb
    replace HB1 : Hid (FiRow u9 b1 d.safe) := HB1.out.below hb
    replace HS2 : Hid (FiRow u9 s2 d.live) := HS2.out.below hb
    replace zd : u1.heap.size < u9.heap.size := Nat.lt_of_lt_of_le zd hb.size
    replace za : u5.heap.size < u9.heap.size := Nat.lt_of_lt_of_le za hb.size
    replace zb : u6.heap.size < u9.heap.size := Nat.lt_of_lt_of_le zb hb.size
    replace zs : u8.heap.size < u9.heap.size := Nat.lt_of_lt_of_le zs hb.size
    replace K : Hid (Below w.heap.size w u9) := bchain K.out hb
    clear hb
    go_wp2_with fail
    refine (laws_sameFiles _ HA2.out H1.out HN.out.2.1 HD.out.1).mono ?_
    rintro e u10 ⟨rfl, hb⟩
    rw [sameB_iff.2 rfl]
    clear HA2 a_1
    replace d_0 := cy hb d_0
    replace d_1 := cy hb d_1
    replace d_2 := cy hb d_2
    replace a_2 := cy hb a_2
    replace b_0 := cy hb b_0
    replace b_1 := cy hb b_1
    replace b_2 := cy hb b_2
    replace s_0 := cy hb s_0
    replace s_1 := cy hb s_1
    replace s_2 := cy hb s_2
    replace H1 : Hid (FiRow u10 d1 d.live) := H1.out.below hb
    replace H2 : Hid (FiRow u10 d2 d.safe) := H2.out.below hb
    replace HB1 : Hid (FiRow u10 b1 d.safe) := HB1.out.below hb
    replace HS2 : Hid (FiRow u10 s2 d.live) := HS2.out.below hb
    replace zd : u1.heap.size < u10.heap.size := Nat.lt_of_lt_of_le zd hb.size
    replace za : u5.heap.size < u10.heap.size := Nat.lt_of_lt_of_le za hb.size
    replace zb : u6.heap.size < u10.heap.size := Nat.lt_of_lt_of_le zb hb.size
    replace zs : u8.heap.size < u10.heap.size := Nat.lt_of_lt_of_le zs hb.size
    replace K : Hid (Below w.heap.size w u10) := bchain K.out hb
    clear hb
    go_wp2_with fail
    refine (laws_sameFiles _ HB1.out H2.out HN.out.2.2 HD.out.2.1).mono ?_
    rintro e u11 ⟨rfl, hb⟩
    rw [sameB_iff.2 rfl]
    clear HB1 H2 b_0 b_1 d_1 d_2
    replace d_0 := cy hb d_0
    replace a_2 := cy hb a_2
    replace b_2 := cy hb b_2
    replace s_0 := cy hb s_0
    replace s_1 := cy hb s_1
    replace s_2 := cy hb s_2
    replace H1 : Hid (FiRow u11 d1 d.live) := H1.out.below hb
    replace HS2 : Hid (FiRow u11 s2 d.live) := HS2.out.below hb
    replace zd : u1.heap.size < u11.heap.size := Nat.lt_of_lt_of_le zd hb.size
    replace za : u5.heap.size < u11.heap.size := Nat.lt_of_lt_of_le za hb.size
    replace zb : u6.heap.size < u11.heap.size := Nat.lt_of_lt_of_le zb hb.size
    replace zs : u8.heap.size < u11.heap.size := Nat.lt_of_lt_of_le zs hb.size
    replace K : Hid (Below w.heap.size w u11) := bchain K.out hb
    clear hb
    go_wp2_with fail
    refine (laws_sameFiles _ HS2.out H1.out HNS.out HD.out.1).mono ?_
    rintro e u12 ⟨rfl, hb⟩
    rw [sameB_iff.2 rfl]
    clear HS2 H1 a_2 b_2 d_0
    replace s_0 := cy hb s_0
    replace s_1 := cy hb s_1
    replace s_2 := cy hb s_2
    replace zd : u1.heap.size < u12.heap.size := Nat.lt_of_lt_of_le zd hb.size
    replace za : u5.heap.size < u12.heap.size := Nat.lt_of_lt_of_le za hb.size
    replace zb : u6.heap.size < u12.heap.size := Nat.lt_of_lt_of_le zb hb.size
    replace zs : u8.heap.size < u12.heap.size := Nat.lt_of_lt_of_le zs hb.size
    replace K : Hid (Below w.heap.size w u12) := bchain K.out hb
    clear hb
    go_wp2_with fail
    go_ret
    exact ⟨rfl, K.out⟩
end Go.Proofs.Ytanjlpgdmnapdaa
