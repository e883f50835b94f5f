import Derived.Test.YtanjlpgdmnapdaaLdA
namespace Go.Proofs.Ytanjlpgdmnapdaa
open Go.RowKit Go.Maps
set_option linter.unusedSimpArgs false
set_option linter.unusedVariables false

set_option maxRecDepth 100000 in
set_option maxHeartbeats 16000000 in
theorem law_FnExactDo {v : Value} {d : DK} (x : DP) (w : World) (h : DkRow w v d) (hok : (∀ x ∈ d.live, fiOk x) ∧ (∀ x ∈ d.safe, fiOk x) ∧ (∀ x ∈ d.ops, dpOk x)) (hx : dpOk x) :
    Calls Try.prog 7 #[v, .agg #[.int .i64 x.k, .string x.n, .string x.t, .string x.d]] w fun e w' => e = .returned (.bool true) ∧ Below w.heap.size w w' := by
  have HR : Hid (DkRow w v d) := h
  have HOK : Hid ((∀ x ∈ d.live, fiOk x) ∧ (∀ x ∈ d.safe, fiOk x) ∧ (∀ x ∈ d.ops, dpOk x)) := hok
  obtain ⟨a1, a2, a3, ac1, ac2, ac3, an1, an2, an3, rfl⟩ := h.agg
  clear h hok
  have HXO : Hid (dpOk x) := hx
  clear hx
  obtain ⟨cd, HCD⟩ : ∃ cd, Hid (sdK d x = cd) := ⟨_, rfl⟩
  have hcd : (cd != cd) = false := by simp
  go_enter Try.func7, Try.ntmps7
  go_wp2_with fail
  refine (laws_szDisk 1048576 _ (HR.out.below (by go_grown)) HOK.out (by omega) (by omega)).mono ?_
  rintro e u1 ⟨z, rfl, hz, hl, hb⟩
  have a_0 := cy hb (b := w.heap.size) (o := 0) (x := .slice a1 an1 ac1) (by go_simp)
  have a_1 := cy hb (b := w.heap.size) (o := 1) (x := .slice a2 an2 ac2) (by go_simp)
  have a_2 := cy hb (b := w.heap.size) (o := 2) (x := .slice a3 an3 ac3) (by go_simp)
  have b_0 := cy hb (b := w.heap.size + 1) (o := 0) (x := .int .i64 x.k) (by go_simp)
  have b_1 := cy hb (b := w.heap.size + 1) (o := 1) (x := .string x.n) (by go_simp)
  have b_2 := cy hb (b := w.heap.size + 1) (o := 2) (x := .string x.t) (by go_simp)
  have b_3 := cy hb (b := w.heap.size + 1) (o := 3) (x := .string x.d) (by go_simp)
  have K1 : Hid (Below w.heap.size w u1) := Below.trans (by go_grown) (hb.mono (by simp; try omega))
  have HL : Hid (0 ≤ z → DkLil d) := hl
  clear hb hl
  by_cases hz0 : z < 0
  · go_wp2_with fail
    go_ret
    exact ⟨rfl, K1.out⟩
  have HLL : Hid (DkLil d) := HL.out (by omega)
  have s1a : w.heap.size < u1.heap.size := World.block_lt_of_cell? u1 ⟨w.heap.size, 0, none⟩ a_0
  have s1b : w.heap.size + 1 < u1.heap.size := World.block_lt_of_cell? u1 ⟨w.heap.size + 1, 0, none⟩ b_0
  go_wp2_with fail
  refine (laws_szDOp x _ _ HXO.out (by omega) (by omega)).mono ?_
  rintro e u2 ⟨z2, rfl, hz2, hl, hb⟩
  replace a_0 := cy hb (b := w.heap.size) (o := 0) (x := .slice a1 an1 ac1) (by go_simp)
  replace a_1 := cy hb (b := w.heap.size) (o := 1) (x := .slice a2 an2 ac2) (by go_simp)
  replace a_2 := cy hb (b := w.heap.size) (o := 2) (x := .slice a3 an3 ac3) (by go_simp)
  replace b_0 := cy hb (b := w.heap.size + 1) (o := 0) (x := .int .i64 x.k) (by go_simp)
  replace b_1 := cy hb (b := w.heap.size + 1) (o := 1) (x := .string x.n) (by go_simp)
  replace b_2 := cy hb (b := w.heap.size + 1) (o := 2) (x := .string x.t) (by go_simp)
  replace b_3 := cy hb (b := w.heap.size + 1) (o := 3) (x := .string x.d) (by go_simp)
  have K2 : Hid (Below w.heap.size w u2) := bchain K1.out hb
  have HL2 : Hid (0 ≤ z2 → dpLil x) := hl
  clear hb hl
  by_cases hz3 : z2 < 0
  · go_wp2_with fail
    go_ret
    exact ⟨rfl, K2.out⟩
  have HXL : Hid (dpLil x) := HL2.out (by omega)
  have s2a : w.heap.size < u2.heap.size := World.block_lt_of_cell? u2 ⟨w.heap.size, 0, none⟩ a_0
  have s2b : w.heap.size + 1 < u2.heap.size := World.block_lt_of_cell? u2 ⟨w.heap.size + 1, 0, none⟩ b_0
  go_upto_region 8 with fail
  go_cut [6, 7] (fun vb vc wx => ∃ g v1 v2 v3, vb = .pointer (some ⟨g, 0, none⟩) ∧ vc = .int .i64 cd ∧ SpR u2 g v1 v2 v3 (sdD d x) wx)
  case first =>
    have KQ : Below u2.heap.size u2 u2.drew := (Below.refl _ _).drew
    refine wp_region_held_drew (S := (fun w' => (∀ bq oq, bq < u2.heap.size → w'.cell? ⟨bq, oq, none⟩ = u2.cell? ⟨bq, oq, none⟩) ∧ u2.heap.size ≤ w'.heap.size ∧ Below u2.heap.size u2 w')) (by kernel_rfl) (sc_of (Nat.le_refl _) (by go_grown)) (fun hHeld => ?_)
    refine wpAnyH_take (i := 0) (v := ?_) rfl (by kernel_rfl) (by kernel_rfl) (by kernel_rfl) (fun _ _ _ h => h) (Or.inl ⟨by rfl, ?_⟩) (by assumption) ?_
    rotate_left
    · (intro wq hSw; (try dsimp only at hSw); go_simp <;> with_reducible rfl)
    try simp only [Act.put, List.getElem_toArray, List.getElem_cons_zero, List.getElem_cons_succ, List.setIfInBounds_toArray, List.set_cons_zero, List.set_cons_succ]
    refine wpAnyH_take (i := 2) (v := ?_) rfl (by kernel_rfl) (by kernel_rfl) (by kernel_rfl) (fun _ _ _ h => h) (Or.inl ⟨by rfl, ?_⟩) (by assumption) ?_
    rotate_left
    · (intro wq hSw; (try dsimp only at hSw); go_simp <;> with_reducible rfl)
    try simp only [Act.put, List.getElem_toArray, List.getElem_cons_zero, List.getElem_cons_succ, List.setIfInBounds_toArray, List.set_cons_zero, List.set_cons_succ]
    refine wpAnyH_ready (rs := [1, 8]) (by kernel_rfl) (by simp) (AllReadyH.cons rfl (fun Kq hKq => ?_) (AllReadyH.cons rfl (fun Kq hKq => ?_) (AllReadyH.nil)))
    · go_simp
      refine (laws_toDisk _ (HR.out.below (bchain K2.out KQ)) HLL.out).mono ?_
      rintro e q1 ⟨vt1, rfl, ho, hb⟩
      have K_1 : Below u2.heap.size u2 q1 := bchain KQ hb
      have FT_1 : Hid (DkRow q1 vt1 d) := ho.row
      clear hb ho
      refine hKq.out _ _ ?_ (fun hHeld => ?_)
      · exact sc_of (Nat.le_refl _) K_1
      clear hKq Kq
      try simp only [Act.put, List.getElem_toArray, List.getElem_cons_zero, List.getElem_cons_succ, List.setIfInBounds_toArray, List.set_cons_zero, List.set_cons_succ]
      refine wpAnyH_ready (rs := [3, 8]) (by kernel_rfl) (by simp) (AllReadyH.cons rfl (fun Kq hKq => ?_) (AllReadyH.cons rfl (fun Kq hKq => ?_) (AllReadyH.nil)))
      · go_simp
        refine (laws_toDOp x _).mono ?_
        rintro e q2 ⟨rfl, hb⟩
        have K_2 : Below u2.heap.size u2 q2 := bchain K_1 hb
        have FT_2 : Hid (DkRow q2 vt1 d) := (FT_1.out).below hb
        clear hb
        refine hKq.out _ _ ?_ (fun hHeld => ?_)
        · exact sc_of (Nat.le_refl _) K_2
        clear hKq Kq
        try simp only [Act.put, List.getElem_toArray, List.getElem_cons_zero, List.getElem_cons_succ, List.setIfInBounds_toArray, List.set_cons_zero, List.set_cons_succ]
        refine wpAnyH_ready (rs := [4, 8]) (by kernel_rfl) (by simp) (AllReadyH.cons rfl (fun Kq hKq => ?_) (AllReadyH.cons rfl (fun Kq hKq => ?_) (AllReadyH.nil)))
        · go_simp
          refine (spec_Do x _ (FT_2.out) HLL.out HXL.out).mono ?_
          rintro e q3 ⟨vo, rfl, ho, hb⟩
          rw [HCD.out]
          have hs3 := K_2.size
          obtain ⟨o1, o2, o3, rfl, h1, h2, h3⟩ := ho
          obtain ⟨r1, t1, rfl, y1, y2⟩ := own_shape h1
          clear y1 y2
          obtain ⟨r2, t2, rfl, y1, y2⟩ := own_shape h2
          clear y1 y2
          obtain ⟨r3, t3, rfl, y1, y2⟩ := own_shape h3
          clear y1 y2
          have K_3 : Below u2.heap.size u2 q3 := bchain K_2 hb
          have FR_3 : Hid (DkHas q3 u2.heap.size (.agg #[(Value.slice r1 ((sdD d x)).live.length t1), (Value.slice r2 ((sdD d x)).safe.length t2), (Value.slice r3 ((sdD d x)).ops.length t3)]) (sdD d x)) := ⟨_, _, _, rfl, own_mono h1 hs3, own_mono h2 hs3, own_mono h3 hs3⟩
          clear hb h1 h2 h3
          refine hKq.out _ _ ?_ (fun hHeld => ?_)
          · exact sc_of (Nat.le_refl _) K_3
          clear hKq Kq
          try simp only [Act.put, List.getElem_toArray, List.getElem_cons_zero, List.getElem_cons_succ, List.setIfInBounds_toArray, List.set_cons_zero, List.set_cons_succ]
          refine wpAnyH_take (i := 5) (v := ?_) rfl (by kernel_rfl) (by kernel_rfl) (by kernel_rfl) (fun _ _ _ h => h) (Or.inl ⟨by rfl, ?_⟩) (by assumption) ?_
          rotate_left
          · (intro wq hSw; (try dsimp only at hSw); go_simp <;> with_reducible rfl)
          try simp only [Act.put, List.getElem_toArray, List.getElem_cons_zero, List.getElem_cons_succ, List.setIfInBounds_toArray, List.set_cons_zero, List.set_cons_succ]
          refine wpAnyH_take (i := 6) (v := ?_) rfl (by kernel_rfl) (by kernel_rfl) (by kernel_rfl) (fun _ _ _ h => h) (Or.inl ⟨by rfl, ?_⟩) (by assumption) ?_
          rotate_left
          · (intro wq hSw; (try dsimp only at hSw); go_simp <;> with_reducible rfl)
          try simp only [Act.put, List.getElem_toArray, List.getElem_cons_zero, List.getElem_cons_succ, List.setIfInBounds_toArray, List.set_cons_zero, List.set_cons_succ]
          refine wpAnyH_take (i := 7) (v := ?_) rfl (by kernel_rfl) (by kernel_rfl) (by kernel_rfl) (fun _ _ _ h => h) (Or.inl ⟨by rfl, ?_⟩) (by assumption) ?_
          rotate_left
          · (intro wq hSw; (try dsimp only at hSw); go_simp <;> with_reducible rfl)
          try simp only [Act.put, List.getElem_toArray, List.getElem_cons_zero, List.getElem_cons_succ, List.setIfInBounds_toArray, List.set_cons_zero, List.set_cons_succ]
          refine wpAnyH_ready (rs := [8]) (by kernel_rfl) (by simp) (AllReadyH.cons rfl (fun Kq hKq => ?_) (AllReadyH.nil))
          go_simp
          obtain ⟨q4, HQ4⟩ : ∃ q, Hid ((q3.alloc (.cells #[.slice none 0 0, .slice none 0 0, .slice none 0 0] 27)) = q) := ⟨_, rfl⟩
          rw [HQ4.out]
          have hb : Below q3.heap.size q3 q4 := by rw [← HQ4.out]; exact (Below.refl _ _).alloc (Nat.le_refl _) _
          have Z_4 : Hid (BoxZ q4 q3.heap.size) := by rw [← HQ4.out]; exact BoxZ.at
          have lo : u2.heap.size ≤ q3.heap.size := K_3.size
          have K_4 : Below u2.heap.size u2 q4 := bchain K_3 hb
          have FR_4 : Hid (DkHas q4 u2.heap.size (.agg #[(Value.slice r1 ((sdD d x)).live.length t1), (Value.slice r2 ((sdD d x)).safe.length t2), (Value.slice r3 ((sdD d x)).ops.length t3)]) (sdD d x)) := (FR_3.out).below hb
          clear hb
          refine hKq.out _ _ ?_ (fun hHeld => ?_)
          · exact sc_of (Nat.le_refl _) K_4
          clear hKq Kq
          try simp only [Act.put, List.getElem_toArray, List.getElem_cons_zero, List.getElem_cons_succ, List.setIfInBounds_toArray, List.set_cons_zero, List.set_cons_succ]
          refine wpAnyH_ready (rs := [9]) (by kernel_rfl) (by simp) (AllReadyH.cons rfl (fun Kq hKq => ?_) (AllReadyH.nil))
          have z0 := Z_4.out.c0
          have z1 := Z_4.out.c1
          have z2 := Z_4.out.c2
          have zf := Z_4.out.nf
          have zl := Z_4.out.lt
          have EE : Hid (SpR u2 (q3.heap.size) (Value.slice r1 ((sdD d x)).live.length t1) (Value.slice r2 ((sdD d x)).safe.length t2) (Value.slice r3 ((sdD d x)).ops.length t3) (sdD d x) (((q4.setCell ⟨q3.heap.size, 0, none⟩ (Value.slice r1 ((sdD d x)).live.length t1)).setCell ⟨q3.heap.size, 1, none⟩ (Value.slice r2 ((sdD d x)).safe.length t2)).setCell ⟨q3.heap.size, 2, none⟩ (Value.slice r3 ((sdD d x)).ops.length t3))) := SpR.of Z_4.out FR_4.out K_4 lo
          go_simp
          refine hKq.out _ _ ?_ (fun hHeld => ?_)
          · exact sc_of (Nat.le_refl _) (bel_set3 K_4 lo)
          clear hKq Kq
          try simp only [Act.put, List.getElem_toArray, List.getElem_cons_zero, List.getElem_cons_succ, List.setIfInBounds_toArray, List.set_cons_zero, List.set_cons_succ]
          refine wpAnyH_take (i := 10) (v := ?_) rfl (by kernel_rfl) (by kernel_rfl) (by kernel_rfl) (fun _ _ _ h => h) (Or.inl ⟨by rfl, ?_⟩) (by assumption) ?_
          rotate_left
          · (intro wq hSw; (try dsimp only at hSw); go_simp <;> with_reducible rfl)
          try simp only [Act.put, List.getElem_toArray, List.getElem_cons_zero, List.getElem_cons_succ, List.setIfInBounds_toArray, List.set_cons_zero, List.set_cons_succ]
          refine wpAnyH_done (by kernel_rfl) ?_ _
          clear hHeld
          go_wp2_with fail
          go_meet
          exact ⟨_, _, _, _, rfl, rfl, EE.out⟩
        · go_simp
          obtain ⟨q5, HQ5⟩ : ∃ q, Hid ((q2.alloc (.cells #[.slice none 0 0, .slice none 0 0, .slice none 0 0] 27)) = q) := ⟨_, rfl⟩
          rw [HQ5.out]
          have hb : Below q2.heap.size q2 q5 := by rw [← HQ5.out]; exact (Below.refl _ _).alloc (Nat.le_refl _) _
          have Z_5 : Hid (BoxZ q5 q2.heap.size) := by rw [← HQ5.out]; exact BoxZ.at
          have lo : u2.heap.size ≤ q2.heap.size := K_2.size
          have K_5 : Below u2.heap.size u2 q5 := bchain K_2 hb
          have FT_5 : Hid (DkRow q5 vt1 d) := (FT_2.out).below hb
          clear hb
          refine hKq.out _ _ ?_ (fun hHeld => ?_)
          · exact sc_of (Nat.le_refl _) K_5
          clear hKq Kq
          try simp only [Act.put, List.getElem_toArray, List.getElem_cons_zero, List.getElem_cons_succ, List.setIfInBounds_toArray, List.set_cons_zero, List.set_cons_succ]
          refine wpAnyH_ready (rs := [4]) (by kernel_rfl) (by simp) (AllReadyH.cons rfl (fun Kq hKq => ?_) (AllReadyH.nil))
          go_simp
          refine (spec_Do x _ (FT_5.out) HLL.out HXL.out).mono ?_
          rintro e q6 ⟨vo, rfl, ho, hb⟩
          rw [HCD.out]
          have hs6 := K_5.size
          obtain ⟨o1, o2, o3, rfl, h1, h2, h3⟩ := ho
          obtain ⟨r1, t1, rfl, y1, y2⟩ := own_shape h1
          clear y1 y2
          obtain ⟨r2, t2, rfl, y1, y2⟩ := own_shape h2
          clear y1 y2
          obtain ⟨r3, t3, rfl, y1, y2⟩ := own_shape h3
          clear y1 y2
          have K_6 : Below u2.heap.size u2 q6 := bchain K_5 hb
          have Z_6 : Hid (BoxZ q6 q2.heap.size) := Z_5.out.below hb
          have FR_6 : Hid (DkHas q6 u2.heap.size (.agg #[(Value.slice r1 ((sdD d x)).live.length t1), (Value.slice r2 ((sdD d x)).safe.length t2), (Value.slice r3 ((sdD d x)).ops.length t3)]) (sdD d x)) := ⟨_, _, _, rfl, own_mono h1 hs6, own_mono h2 hs6, own_mono h3 hs6⟩
          clear hb h1 h2 h3
          refine hKq.out _ _ ?_ (fun hHeld => ?_)
          · exact sc_of (Nat.le_refl _) K_6
          clear hKq Kq
          try simp only [Act.put, List.getElem_toArray, List.getElem_cons_zero, List.getElem_cons_succ, List.setIfInBounds_toArray, List.set_cons_zero, List.set_cons_succ]
          refine wpAnyH_take (i := 5) (v := ?_) rfl (by kernel_rfl) (by kernel_rfl) (by kernel_rfl) (fun _ _ _ h => h) (Or.inl ⟨by rfl, ?_⟩) (by assumption) ?_
          rotate_left
          · (intro wq hSw; (try dsimp only at hSw); go_simp <;> with_reducible rfl)
          try simp only [Act.put, List.getElem_toArray, List.getElem_cons_zero, List.getElem_cons_succ, List.setIfInBounds_toArray, List.set_cons_zero, List.set_cons_succ]
          refine wpAnyH_take (i := 6) (v := ?_) rfl (by kernel_rfl) (by kernel_rfl) (by kernel_rfl) (fun _ _ _ h => h) (Or.inl ⟨by rfl, ?_⟩) (by assumption) ?_
          rotate_left
          · (intro wq hSw; (try dsimp only at hSw); go_simp <;> with_reducible rfl)
          try simp only [Act.put, List.getElem_toArray, List.getElem_cons_zero, List.getElem_cons_succ, List.setIfInBounds_toArray, List.set_cons_zero, List.set_cons_succ]
          refine wpAnyH_take (i := 7) (v := ?_) rfl (by kernel_rfl) (by kernel_rfl) (by kernel_rfl) (fun _ _ _ h => h) (Or.inl ⟨by rfl, ?_⟩) (by assumption) ?_
          rotate_left
          · (intro wq hSw; (try dsimp only at hSw); go_simp <;> with_reducible rfl)
          try simp only [Act.put, List.getElem_toArray, List.getElem_cons_zero, List.getElem_cons_succ, List.setIfInBounds_toArray, List.set_cons_zero, List.set_cons_succ]
          refine wpAnyH_ready (rs := [9]) (by kernel_rfl) (by simp) (AllReadyH.cons rfl (fun Kq hKq => ?_) (AllReadyH.nil))
          have z0 := Z_6.out.c0
          have z1 := Z_6.out.c1
          have z2 := Z_6.out.c2
          have zf := Z_6.out.nf
          have zl := Z_6.out.lt
          have EE : Hid (SpR u2 (q2.heap.size) (Value.slice r1 ((sdD d x)).live.length t1) (Value.slice r2 ((sdD d x)).safe.length t2) (Value.slice r3 ((sdD d x)).ops.length t3) (sdD d x) (((q6.setCell ⟨q2.heap.size, 0, none⟩ (Value.slice r1 ((sdD d x)).live.length t1)).setCell ⟨q2.heap.size, 1, none⟩ (Value.slice r2 ((sdD d x)).safe.length t2)).setCell ⟨q2.heap.size, 2, none⟩ (Value.slice r3 ((sdD d x)).ops.length t3))) := SpR.of Z_6.out FR_6.out K_6 lo
          go_simp
          refine hKq.out _ _ ?_ (fun hHeld => ?_)
          · exact sc_of (Nat.le_refl _) (bel_set3 K_6 lo)
          clear hKq Kq
          try simp only [Act.put, List.getElem_toArray, List.getElem_cons_zero, List.getElem_cons_succ, List.setIfInBounds_toArray, List.set_cons_zero, List.set_cons_succ]
          refine wpAnyH_take (i := 10) (v := ?_) rfl (by kernel_rfl) (by kernel_rfl) (by kernel_rfl) (fun _ _ _ h => h) (Or.inl ⟨by rfl, ?_⟩) (by assumption) ?_
          rotate_left
          · (intro wq hSw; (try dsimp only at hSw); go_simp <;> with_reducible rfl)
          try simp only [Act.put, List.getElem_toArray, List.getElem_cons_zero, List.getElem_cons_succ, List.setIfInBounds_toArray, List.set_cons_zero, List.set_cons_succ]
          refine wpAnyH_done (by kernel_rfl) ?_ _
          clear hHeld
          go_wp2_with fail
          go_meet
          exact ⟨_, _, _, _, rfl, rfl, EE.out⟩
      · go_simp
        obtain ⟨q7, HQ7⟩ : ∃ q, Hid ((q1.alloc (.cells #[.slice none 0 0, .slice none 0 0, .slice none 0 0] 27)) = q) := ⟨_, rfl⟩
        rw [HQ7.out]
        have hb : Below q1.heap.size q1 q7 := by rw [← HQ7.out]; exact (Below.refl _ _).alloc (Nat.le_refl _) _
        have Z_7 : Hid (BoxZ q7 q1.heap.size) := by rw [← HQ7.out]; exact BoxZ.at
        have lo : u2.heap.size ≤ q1.heap.size := K_1.size
        have K_7 : Below u2.heap.size u2 q7 := bchain K_1 hb
        have FT_7 : Hid (DkRow q7 vt1 d) := (FT_1.out).below hb
        clear hb
        refine hKq.out _ _ ?_ (fun hHeld => ?_)
        · exact sc_of (Nat.le_refl _) K_7
        clear hKq Kq
        try simp only [Act.put, List.getElem_toArray, List.getElem_cons_zero, List.getElem_cons_succ, List.setIfInBounds_toArray, List.set_cons_zero, List.set_cons_succ]
        refine wpAnyH_ready (rs := [3]) (by kernel_rfl) (by simp) (AllReadyH.cons rfl (fun Kq hKq => ?_) (AllReadyH.nil))
        go_simp
        refine (laws_toDOp x _).mono ?_
        rintro e q8 ⟨rfl, hb⟩
        have K_8 : Below u2.heap.size u2 q8 := bchain K_7 hb
        have Z_8 : Hid (BoxZ q8 q1.heap.size) := Z_7.out.below hb
        have FT_8 : Hid (DkRow q8 vt1 d) := (FT_7.out).below hb
        clear hb
        refine hKq.out _ _ ?_ (fun hHeld => ?_)
        · exact sc_of (Nat.le_refl _) K_8
        clear hKq Kq
        try simp only [Act.put, List.getElem_toArray, List.getElem_cons_zero, List.getElem_cons_succ, List.setIfInBounds_toArray, List.set_cons_zero, List.set_cons_succ]
        refine wpAnyH_ready (rs := [4]) (by kernel_rfl) (by simp) (AllReadyH.cons rfl (fun Kq hKq => ?_) (AllReadyH.nil))
        go_simp
        refine (spec_Do x _ (FT_8.out) HLL.out HXL.out).mono ?_
        rintro e q9 ⟨vo, rfl, ho, hb⟩
        rw [HCD.out]
        have hs9 := K_8.size
        obtain ⟨o1, o2, o3, rfl, h1, h2, h3⟩ := ho
        obtain ⟨r1, t1, rfl, y1, y2⟩ := own_shape h1
        clear y1 y2
        obtain ⟨r2, t2, rfl, y1, y2⟩ := own_shape h2
        clear y1 y2
        obtain ⟨r3, t3, rfl, y1, y2⟩ := own_shape h3
        clear y1 y2
        have K_9 : Below u2.heap.size u2 q9 := bchain K_8 hb
        have Z_9 : Hid (BoxZ q9 q1.heap.size) := Z_8.out.below hb
        have FR_9 : Hid (DkHas q9 u2.heap.size (.agg #[(Value.slice r1 ((sdD d x)).live.length t1), (Value.slice r2 ((sdD d x)).safe.length t2), (Value.slice r3 ((sdD d x)).ops.length t3)]) (sdD d x)) := ⟨_, _, _, rfl, own_mono h1 hs9, own_mono h2 hs9, own_mono h3 hs9⟩
        clear hb h1 h2 h3
        refine hKq.out _ _ ?_ (fun hHeld => ?_)
        · exact sc_of (Nat.le_refl _) K_9
        clear hKq Kq
        try simp only [Act.put, List.getElem_toArray, List.getElem_cons_zero, List.getElem_cons_succ, List.setIfInBounds_toArray, List.set_cons_zero, List.set_cons_succ]
        refine wpAnyH_take (i := 5) (v := ?_) rfl (by kernel_rfl) (by kernel_rfl) (by kernel_rfl) (fun _ _ _ h => h) (Or.inl ⟨by rfl, ?_⟩) (by assumption) ?_
        rotate_left
        · (intro wq hSw; (try dsimp only at hSw); go_simp <;> with_reducible rfl)
        try simp only [Act.put, List.getElem_toArray, List.getElem_cons_zero, List.getElem_cons_succ, List.setIfInBounds_toArray, List.set_cons_zero, List.set_cons_succ]
        refine wpAnyH_take (i := 6) (v := ?_) rfl (by kernel_rfl) (by kernel_rfl) (by kernel_rfl) (fun _ _ _ h => h) (Or.inl ⟨by rfl, ?_⟩) (by assumption) ?_
        rotate_left
        · (intro wq hSw; (try dsimp only at hSw); go_simp <;> with_reducible rfl)
        try simp only [Act.put, List.getElem_toArray, List.getElem_cons_zero, List.getElem_cons_succ, List.setIfInBounds_toArray, List.set_cons_zero, List.set_cons_succ]
        refine wpAnyH_take (i := 7) (v := ?_) rfl (by kernel_rfl) (by kernel_rfl) (by kernel_rfl) (fun _ _ _ h => h) (Or.inl ⟨by rfl, ?_⟩) (by assumption) ?_
        rotate_left
        · (intro wq hSw; (try dsimp only at hSw); go_simp <;> with_reducible rfl)
        try simp only [Act.put, List.getElem_toArray, List.getElem_cons_zero, List.getElem_cons_succ, List.setIfInBounds_toArray, List.set_cons_zero, List.set_cons_succ]
        refine wpAnyH_ready (rs := [9]) (by kernel_rfl) (by simp) (AllReadyH.cons rfl (fun Kq hKq => ?_) (AllReadyH.nil))
        have z0 := Z_9.out.c0
        have z1 := Z_9.out.c1
        have z2 := Z_9.out.c2
        have zf := Z_9.out.nf
        have zl := Z_9.out.lt
        have EE : Hid (SpR u2 (q1.heap.size) (Value.slice r1 ((sdD d x)).live.length t1) (Value.slice r2 ((sdD d x)).safe.length t2) (Value.slice r3 ((sdD d x)).ops.length t3) (sdD d x) (((q9.setCell ⟨q1.heap.size, 0, none⟩ (Value.slice r1 ((sdD d x)).live.length t1)).setCell ⟨q1.heap.size, 1, none⟩ (Value.slice r2 ((sdD d x)).safe.length t2)).setCell ⟨q1.heap.size, 2, none⟩ (Value.slice r3 ((sdD d x)).ops.length t3))) := SpR.of Z_9.out FR_9.out K_9 lo
        go_simp
        refine hKq.out _ _ ?_ (fun hHeld => ?_)
        · exact sc_of (Nat.le_refl _) (bel_set3 K_9 lo)
        clear hKq Kq
        try simp only [Act.put, List.getElem_toArray, List.getElem_cons_zero, List.getElem_cons_succ, List.setIfInBounds_toArray, List.set_cons_zero, List.set_cons_succ]
        refine wpAnyH_take (i := 10) (v := ?_) rfl (by kernel_rfl) (by kernel_rfl) (by kernel_rfl) (fun _ _ _ h => h) (Or.inl ⟨by rfl, ?_⟩) (by assumption) ?_
        rotate_left
        · (intro wq hSw; (try dsimp only at hSw); go_simp <;> with_reducible rfl)
        try simp only [Act.put, List.getElem_toArray, List.getElem_cons_zero, List.getElem_cons_succ, List.setIfInBounds_toArray, List.set_cons_zero, List.set_cons_succ]
        refine wpAnyH_done (by kernel_rfl) ?_ _
        clear hHeld
        go_wp2_with fail
        go_meet
        exact ⟨_, _, _, _, rfl, rfl, EE.out⟩
    · go_simp
      obtain ⟨q10, HQ10⟩ : ∃ q, Hid ((u2.alloc (.cells #[.slice none 0 0, .slice none 0 0, .slice none 0 0] 27)).drew = q) := ⟨_, rfl⟩
      rw [HQ10.out]
      have hb : Below u2.drew.heap.size u2.drew q10 := by rw [← HQ10.out]; exact ⟨rfl, rfl, rfl, by simp, fun q hq => Below.heap_alloc u2 _ q hq⟩
      have Z_10 : Hid (BoxZ q10 u2.heap.size) := by rw [← HQ10.out]; exact BoxZ.at.drew
      have lo : u2.heap.size ≤ u2.drew.heap.size := KQ.size
      have K_10 : Below u2.heap.size u2 q10 := bchain KQ hb
      clear hb
      refine hKq.out _ _ ?_ (fun hHeld => ?_)
      · exact sc_of (Nat.le_refl _) K_10
      clear hKq Kq
      try simp only [Act.put, List.getElem_toArray, List.getElem_cons_zero, List.getElem_cons_succ, List.setIfInBounds_toArray, List.set_cons_zero, List.set_cons_succ]
      refine wpAnyH_ready (rs := [1]) (by kernel_rfl) (by simp) (AllReadyH.cons rfl (fun Kq hKq => ?_) (AllReadyH.nil))
      go_simp
      refine (laws_toDisk _ (HR.out.below (bchain K2.out K_10)) HLL.out).mono ?_
      rintro e q11 ⟨vt11, rfl, ho, hb⟩
      have K_11 : Below u2.heap.size u2 q11 := bchain K_10 hb
      have Z_11 : Hid (BoxZ q11 u2.heap.size) := Z_10.out.below hb
      have FT_11 : Hid (DkRow q11 vt11 d) := ho.row
      clear hb ho
      refine hKq.out _ _ ?_ (fun hHeld => ?_)
      · exact sc_of (Nat.le_refl _) K_11
      clear hKq Kq
      try simp only [Act.put, List.getElem_toArray, List.getElem_cons_zero, List.getElem_cons_succ, List.setIfInBounds_toArray, List.set_cons_zero, List.set_cons_succ]
      refine wpAnyH_ready (rs := [3]) (by kernel_rfl) (by simp) (AllReadyH.cons rfl (fun Kq hKq => ?_) (AllReadyH.nil))
      go_simp
      refine (laws_toDOp x _).mono ?_
      rintro e q12 ⟨rfl, hb⟩
      have K_12 : Below u2.heap.size u2 q12 := bchain K_11 hb
      have Z_12 : Hid (BoxZ q12 u2.heap.size) := Z_11.out.below hb
      have FT_12 : Hid (DkRow q12 vt11 d) := (FT_11.out).below hb
      clear hb
      refine hKq.out _ _ ?_ (fun hHeld => ?_)
      · exact sc_of (Nat.le_refl _) K_12
      clear hKq Kq
      try simp only [Act.put, List.getElem_toArray, List.getElem_cons_zero, List.getElem_cons_succ, List.setIfInBounds_toArray, List.set_cons_zero, List.set_cons_succ]
      refine wpAnyH_ready (rs := [4]) (by kernel_rfl) (by simp) (AllReadyH.cons rfl (fun Kq hKq => ?_) (AllReadyH.nil))
      go_simp
      refine (spec_Do x _ (FT_12.out) HLL.out HXL.out).mono ?_
      rintro e q13 ⟨vo, rfl, ho, hb⟩
      rw [HCD.out]
      have hs13 := K_12.size
      obtain ⟨o1, o2, o3, rfl, h1, h2, h3⟩ := ho
      obtain ⟨r1, t1, rfl, y1, y2⟩ := own_shape h1
      clear y1 y2
      obtain ⟨r2, t2, rfl, y1, y2⟩ := own_shape h2
      clear y1 y2
      obtain ⟨r3, t3, rfl, y1, y2⟩ := own_shape h3
      clear y1 y2
      have K_13 : Below u2.heap.size u2 q13 := bchain K_12 hb
      have Z_13 : Hid (BoxZ q13 u2.heap.size) := Z_12.out.below hb
      have FR_13 : Hid (DkHas q13 u2.heap.size (.agg #[(Value.slice r1 ((sdD d x)).live.length t1), (Value.slice r2 ((sdD d x)).safe.length t2), (Value.slice r3 ((sdD d x)).ops.length t3)]) (sdD d x)) := ⟨_, _, _, rfl, own_mono h1 hs13, own_mono h2 hs13, own_mono h3 hs13⟩
      clear hb h1 h2 h3
      refine hKq.out _ _ ?_ (fun hHeld => ?_)
      · exact sc_of (Nat.le_refl _) K_13
      clear hKq Kq
      try simp only [Act.put, List.getElem_toArray, List.getElem_cons_zero, List.getElem_cons_succ, List.setIfInBounds_toArray, List.set_cons_zero, List.set_cons_succ]
      refine wpAnyH_take (i := 5) (v := ?_) rfl (by kernel_rfl) (by kernel_rfl) (by kernel_rfl) (fun _ _ _ h => h) (Or.inl ⟨by rfl, ?_⟩) (by assumption) ?_
      rotate_left
      · (intro wq hSw; (try dsimp only at hSw); go_simp <;> with_reducible rfl)
      try simp only [Act.put, List.getElem_toArray, List.getElem_cons_zero, List.getElem_cons_succ, List.setIfInBounds_toArray, List.set_cons_zero, List.set_cons_succ]
      refine wpAnyH_take (i := 6) (v := ?_) rfl (by kernel_rfl) (by kernel_rfl) (by kernel_rfl) (fun _ _ _ h => h) (Or.inl ⟨by rfl, ?_⟩) (by assumption) ?_
      rotate_left
      · (intro wq hSw; (try dsimp only at hSw); go_simp <;> with_reducible rfl)
      try simp only [Act.put, List.getElem_toArray, List.getElem_cons_zero, List.getElem_cons_succ, List.setIfInBounds_toArray, List.set_cons_zero, List.set_cons_succ]
      refine wpAnyH_take (i := 7) (v := ?_) rfl (by kernel_rfl) (by kernel_rfl) (by kernel_rfl) (fun _ _ _ h => h) (Or.inl ⟨by rfl, ?_⟩) (by assumption) ?_
      rotate_left
      · (intro wq hSw; (try dsimp only at hSw); go_simp <;> with_reducible rfl)
      try simp only [Act.put, List.getElem_toArray, List.getElem_cons_zero, List.getElem_cons_succ, List.setIfInBounds_toArray, List.set_cons_zero, List.set_cons_succ]
      refine wpAnyH_ready (rs := [9]) (by kernel_rfl) (by simp) (AllReadyH.cons rfl (fun Kq hKq => ?_) (AllReadyH.nil))
      have z0 := Z_13.out.c0
      have z1 := Z_13.out.c1
      have z2 := Z_13.out.c2
      have zf := Z_13.out.nf
      have zl := Z_13.out.lt
      have EE : Hid (SpR u2 (u2.heap.size) (Value.slice r1 ((sdD d x)).live.length t1) (Value.slice r2 ((sdD d x)).safe.length t2) (Value.slice r3 ((sdD d x)).ops.length t3) (sdD d x) (((q13.setCell ⟨u2.heap.size, 0, none⟩ (Value.slice r1 ((sdD d x)).live.length t1)).setCell ⟨u2.heap.size, 1, none⟩ (Value.slice r2 ((sdD d x)).safe.length t2)).setCell ⟨u2.heap.size, 2, none⟩ (Value.slice r3 ((sdD d x)).ops.length t3))) := SpR.of Z_13.out FR_13.out K_13 lo
      go_simp
      refine hKq.out _ _ ?_ (fun hHeld => ?_)
      · exact sc_of (Nat.le_refl _) (bel_set3 K_13 lo)
      clear hKq Kq
      try simp only [Act.put, List.getElem_toArray, List.getElem_cons_zero, List.getElem_cons_succ, List.setIfInBounds_toArray, List.set_cons_zero, List.set_cons_succ]
      refine wpAnyH_take (i := 10) (v := ?_) rfl (by kernel_rfl) (by kernel_rfl) (by kernel_rfl) (fun _ _ _ h => h) (Or.inl ⟨by rfl, ?_⟩) (by assumption) ?_
      rotate_left
      · (intro wq hSw; (try dsimp only at hSw); go_simp <;> with_reducible rfl)
      try simp only [Act.put, List.getElem_toArray, List.getElem_cons_zero, List.getElem_cons_succ, List.setIfInBounds_toArray, List.set_cons_zero, List.set_cons_succ]
      refine wpAnyH_done (by kernel_rfl) ?_ _
      clear hHeld
      go_wp2_with fail
      go_meet
      exact ⟨_, _, _, _, rfl, rfl, EE.out⟩
  case rest =>
    obtain ⟨go, vo1, vo2, vo3, rfl, rfl, hR⟩ := hcut
    obtain ⟨o1, o2, o3, oc1, oc2, oc3, on1, on2, on3, ee⟩ := hR.has.row.agg
    cases ee
    have hb := hR.bel
    replace a_0 := cy hb (b := w.heap.size) (o := 0) (x := .slice a1 an1 ac1) (by go_simp)
    replace a_1 := cy hb (b := w.heap.size) (o := 1) (x := .slice a2 an2 ac2) (by go_simp)
    replace a_2 := cy hb (b := w.heap.size) (o := 2) (x := .slice a3 an3 ac3) (by go_simp)
    replace b_0 := cy hb (b := w.heap.size + 1) (o := 0) (x := .int .i64 x.k) (by go_simp)
    replace b_1 := cy hb (b := w.heap.size + 1) (o := 1) (x := .string x.n) (by go_simp)
    replace b_2 := cy hb (b := w.heap.size + 1) (o := 2) (x := .string x.t) (by go_simp)
    replace b_3 := cy hb (b := w.heap.size + 1) (o := 3) (x := .string x.d) (by go_simp)
    have o_0 := hR.c0
    have o_1 := hR.c1
    have o_2 := hR.c2
    have O3 : Hid (DkRow wc (.agg #[.slice o1 on1 oc1, .slice o2 on2 oc2, .slice o3 on3 oc3]) (sdD d x)) := hR.has.row
    have K3 : Hid (Below w.heap.size w wc) := bchain K2.out hb
    have OLO : Hid (u2.heap.size ≤ go) := hR.lo
    have s3o : go < wc.heap.size := hR.hi
    have s3s := hb.size
    have s3a : w.heap.size < wc.heap.size := by omega
    have s3b : w.heap.size + 1 < wc.heap.size := by omega
    have nea : w.heap.size < go := by have := OLO.out; omega
    have neb : w.heap.size + 1 < go := by have := OLO.out; omega
    clear hb hR
    obtain ⟨v3w, hw3⟩ : ∃ v3w, v3w = wc := ⟨_, rfl⟩
    subst hw3
    go_wp2_with fail
    refine (laws_toDisk _ (HR.out.below K3.out) HLL.out).mono ?_
    rintro e u4 ⟨vx, rfl, ho, hb⟩
    replace a_0 := cy hb (b := w.heap.size) (o := 0) (x := .slice a1 an1 ac1) (by go_simp)
    replace a_1 := cy hb (b := w.heap.size) (o := 1) (x := .slice a2 an2 ac2) (by go_simp)
    replace a_2 := cy hb (b := w.heap.size) (o := 2) (x := .slice a3 an3 ac3) (by go_simp)
    replace b_0 := cy hb (b := w.heap.size + 1) (o := 0) (x := .int .i64 x.k) (by go_simp)
    replace b_1 := cy hb (b := w.heap.size + 1) (o := 1) (x := .string x.n) (by go_simp)
    replace b_2 := cy hb (b := w.heap.size + 1) (o := 2) (x := .string x.t) (by go_simp)
    replace b_3 := cy hb (b := w.heap.size + 1) (o := 3) (x := .string x.d) (by go_simp)
    replace o_0 := cy hb (b := go) (o := 0) (x := .slice o1 on1 oc1) (by go_simp)
    replace o_1 := cy hb (b := go) (o := 1) (x := .slice o2 on2 oc2) (by go_simp)
    replace o_2 := cy hb (b := go) (o := 2) (x := .slice o3 on3 oc3) (by go_simp)
    obtain ⟨x1, x2, x3, xc1, xc2, xc3, xn1, xn2, xn3, rfl⟩ := ho.row.agg
    have X4 : Hid (DkOwn u4 v3w.heap.size (.agg #[.slice x1 xn1 xc1, .slice x2 xn2 xc2, .slice x3 xn3 xc3]) d) := ho
    have K4 : Hid (Below w.heap.size w u4) := bchain K3.out hb
    have O4 : Hid (Below v3w.heap.size v3w u4) := hb
    have s4s := hb.size
    have s4a : w.heap.size < u4.heap.size := by omega
    have s4b : w.heap.size + 1 < u4.heap.size := by omega
    have s4o : go < u4.heap.size := by omega
    have XB : Hid (∀ q, some q ∈ blks (.agg #[.slice x1 xn1 xc1, .slice x2 xn2 xc2, .slice x3 xn3 xc3]) → v3w.heap.size ≤ q ∧ q < u4.heap.size) := X4.out.blk
    clear hb ho
    go_upto_region 10 with fail
    obtain ⟨u5, HU5⟩ : ∃ u5, Hid ((u4.alloc (.cells #[.slice x1 xn1 xc1, .slice x2 xn2 xc2, .slice x3 xn3 xc3] 27)) = u5) := ⟨_, rfl⟩
    rw [HU5.out]
    have hb : Below u4.heap.size u4 u5 := by rw [← HU5.out]; exact (Below.refl _ _).alloc (Nat.le_refl _) _
    have x_0 : u5.cell? ⟨u4.heap.size, 0, none⟩ = some (.slice x1 xn1 xc1) := by rw [← HU5.out]; go_simp
    have x_1 : u5.cell? ⟨u4.heap.size, 1, none⟩ = some (.slice x2 xn2 xc2) := by rw [← HU5.out]; go_simp
    have x_2 : u5.cell? ⟨u4.heap.size, 2, none⟩ = some (.slice x3 xn3 xc3) := by rw [← HU5.out]; go_simp
    replace a_0 := cy hb (b := w.heap.size) (o := 0) (x := .slice a1 an1 ac1) (by go_simp)
    replace a_1 := cy hb (b := w.heap.size) (o := 1) (x := .slice a2 an2 ac2) (by go_simp)
    replace a_2 := cy hb (b := w.heap.size) (o := 2) (x := .slice a3 an3 ac3) (by go_simp)
    replace b_0 := cy hb (b := w.heap.size + 1) (o := 0) (x := .int .i64 x.k) (by go_simp)
    replace b_1 := cy hb (b := w.heap.size + 1) (o := 1) (x := .string x.n) (by go_simp)
    replace b_2 := cy hb (b := w.heap.size + 1) (o := 2) (x := .string x.t) (by go_simp)
    replace b_3 := cy hb (b := w.heap.size + 1) (o := 3) (x := .string x.d) (by go_simp)
    replace o_0 := cy hb (b := go) (o := 0) (x := .slice o1 on1 oc1) (by go_simp)
    replace o_1 := cy hb (b := go) (o := 1) (x := .slice o2 on2 oc2) (by go_simp)
    replace o_2 := cy hb (b := go) (o := 2) (x := .slice o3 on3 oc3) (by go_simp)
    have X5 : Hid (DkOwn u5 v3w.heap.size (.agg #[.slice x1 xn1 xc1, .slice x2 xn2 xc2, .slice x3 xn3 xc3]) d) := X4.out.below hb
    have K5 : Hid (Below w.heap.size w u5) := bchain K4.out hb
    have O5 : Hid (Below v3w.heap.size v3w u5) := bchain O4.out hb
    have s5x : u4.heap.size < u5.heap.size := World.block_lt_of_cell? u5 ⟨u4.heap.size, 0, none⟩ x_0
    have s5a : w.heap.size < u5.heap.size := by omega
    have s5b : w.heap.size + 1 < u5.heap.size := by omega
    have s5o : go < u5.heap.size := by omega
    clear hb X4
    go_cut [9, 10] (fun vb vc wx => ∃ g v1 v2 v3, vb = .pointer (some ⟨g, 0, none⟩) ∧ vc = .int .i64 cd ∧ ImR u5 g v1 v2 v3 (sdD d x) wx)
    case first =>
      have KQ : Below u5.heap.size u5 u5.drew := (Below.refl _ _).drew
      refine wp_region_held_drew (S := (fun w' => (∀ bq oq, bq < u5.heap.size → w'.cell? ⟨bq, oq, none⟩ = u5.cell? ⟨bq, oq, none⟩) ∧ u5.heap.size ≤ w'.heap.size ∧ Below u5.heap.size u5 w')) (by kernel_rfl) (sc_of (Nat.le_refl _) (by go_grown)) (fun hHeld => ?_)
      refine wpAnyH_take (i := 0) (v := ?_) rfl (by kernel_rfl) (by kernel_rfl) (by kernel_rfl) (fun _ _ _ h => h) (Or.inl ⟨by rfl, ?_⟩) (by assumption) ?_
      rotate_left
      · (intro wq hSw; (try dsimp only at hSw); go_simp <;> with_reducible rfl)
      try simp only [Act.put, List.getElem_toArray, List.getElem_cons_zero, List.getElem_cons_succ, List.setIfInBounds_toArray, List.set_cons_zero, List.set_cons_succ]
      refine wpAnyH_take (i := 1) (v := ?_) rfl (by kernel_rfl) (by kernel_rfl) (by kernel_rfl) (fun _ _ _ h => h) (Or.inl ⟨by rfl, ?_⟩) (by assumption) ?_
      rotate_left
      · (intro wq hSw; (try dsimp only at hSw); go_simp <;> with_reducible rfl)
      try simp only [Act.put, List.getElem_toArray, List.getElem_cons_zero, List.getElem_cons_succ, List.setIfInBounds_toArray, List.set_cons_zero, List.set_cons_succ]
      refine wpAnyH_ready (rs := [2, 7]) (by kernel_rfl) (by simp) (AllReadyH.cons rfl (fun Kq hKq => ?_) (AllReadyH.cons rfl (fun Kq hKq => ?_) (AllReadyH.nil)))
      · go_simp
        refine (laws_toDOp x _).mono ?_
        rintro e q1 ⟨rfl, hb⟩
        have K_1 : Below u5.heap.size u5 q1 := bchain KQ hb
        clear hb
        refine hKq.out _ _ ?_ (fun hHeld => ?_)
        · exact sc_of (Nat.le_refl _) K_1
        clear hKq Kq
        try simp only [Act.put, List.getElem_toArray, List.getElem_cons_zero, List.getElem_cons_succ, List.setIfInBounds_toArray, List.set_cons_zero, List.set_cons_succ]
        refine wpAnyH_ready (rs := [3, 7]) (by kernel_rfl) (by simp) (AllReadyH.cons rfl (fun Kq hKq => ?_) (AllReadyH.cons rfl (fun Kq hKq => ?_) (AllReadyH.nil)))
        · go_simp
          refine (impl_Do x _ (X5.out.row.below K_1) HLL.out HXL.out).mono ?_
          rintro e q2 ⟨vo, rfl, ho, hb⟩
          rw [HCD.out]
          have hs2 := K_1.size
          obtain ⟨o1, o2, o3, rfl, h1, h2, h3, h4⟩ := ho
          obtain ⟨r1, t1, rfl, y1, y2⟩ := own_shape h1
          clear y1 y2
          obtain ⟨r2, t2, rfl, y1, y2⟩ := own_shape h2
          clear y1 y2
          obtain ⟨r3, t3, rfl, y1, y2⟩ := own_shape h3
          clear y1 y2
          have K_2 : Below u5.heap.size u5 q2 := bchain K_1 hb
          have FR_2 : Hid (DkOwn q2 u5.heap.size (.agg #[(Value.slice r1 ((sdD d x)).live.length t1), (Value.slice r2 ((sdD d x)).safe.length t2), (Value.slice r3 ((sdD d x)).ops.length t3)]) (sdD d x)) := ⟨_, _, _, rfl, own_mono h1 hs2, own_mono h2 hs2, own_mono h3 hs2, h4⟩
          clear hb h1 h2 h3
          refine hKq.out _ _ ?_ (fun hHeld => ?_)
          · exact sc_of (Nat.le_refl _) K_2
          clear hKq Kq
          try simp only [Act.put, List.getElem_toArray, List.getElem_cons_zero, List.getElem_cons_succ, List.setIfInBounds_toArray, List.set_cons_zero, List.set_cons_succ]
          refine wpAnyH_take (i := 4) (v := ?_) rfl (by kernel_rfl) (by kernel_rfl) (by kernel_rfl) (fun _ _ _ h => h) (Or.inl ⟨by rfl, ?_⟩) (by assumption) ?_
          rotate_left
          · (intro wq hSw; (try dsimp only at hSw); go_simp <;> with_reducible rfl)
          try simp only [Act.put, List.getElem_toArray, List.getElem_cons_zero, List.getElem_cons_succ, List.setIfInBounds_toArray, List.set_cons_zero, List.set_cons_succ]
          refine wpAnyH_take (i := 5) (v := ?_) rfl (by kernel_rfl) (by kernel_rfl) (by kernel_rfl) (fun _ _ _ h => h) (Or.inl ⟨by rfl, ?_⟩) (by assumption) ?_
          rotate_left
          · (intro wq hSw; (try dsimp only at hSw); go_simp <;> with_reducible rfl)
          try simp only [Act.put, List.getElem_toArray, List.getElem_cons_zero, List.getElem_cons_succ, List.setIfInBounds_toArray, List.set_cons_zero, List.set_cons_succ]
          refine wpAnyH_take (i := 6) (v := ?_) rfl (by kernel_rfl) (by kernel_rfl) (by kernel_rfl) (fun _ _ _ h => h) (Or.inl ⟨by rfl, ?_⟩) (by assumption) ?_
          rotate_left
          · (intro wq hSw; (try dsimp only at hSw); go_simp <;> with_reducible rfl)
          try simp only [Act.put, List.getElem_toArray, List.getElem_cons_zero, List.getElem_cons_succ, List.setIfInBounds_toArray, List.set_cons_zero, List.set_cons_succ]
          refine wpAnyH_ready (rs := [7]) (by kernel_rfl) (by simp) (AllReadyH.cons rfl (fun Kq hKq => ?_) (AllReadyH.nil))
          go_simp
          obtain ⟨q3, HQ3⟩ : ∃ q, Hid ((q2.alloc (.cells #[.slice none 0 0, .slice none 0 0, .slice none 0 0] 27)) = q) := ⟨_, rfl⟩
          rw [HQ3.out]
          have hb : Below q2.heap.size q2 q3 := by rw [← HQ3.out]; exact (Below.refl _ _).alloc (Nat.le_refl _) _
          have Z_3 : Hid (BoxZ q3 q2.heap.size) := by rw [← HQ3.out]; exact BoxZ.at
          have lo : u5.heap.size ≤ q2.heap.size := K_2.size
          have K_3 : Below u5.heap.size u5 q3 := bchain K_2 hb
          have FR_3 : Hid (DkOwn q3 u5.heap.size (.agg #[(Value.slice r1 ((sdD d x)).live.length t1), (Value.slice r2 ((sdD d x)).safe.length t2), (Value.slice r3 ((sdD d x)).ops.length t3)]) (sdD d x)) := (FR_2.out).below hb
          clear hb
          refine hKq.out _ _ ?_ (fun hHeld => ?_)
          · exact sc_of (Nat.le_refl _) K_3
          clear hKq Kq
          try simp only [Act.put, List.getElem_toArray, List.getElem_cons_zero, List.getElem_cons_succ, List.setIfInBounds_toArray, List.set_cons_zero, List.set_cons_succ]
          refine wpAnyH_ready (rs := [8]) (by kernel_rfl) (by simp) (AllReadyH.cons rfl (fun Kq hKq => ?_) (AllReadyH.nil))
          have z0 := Z_3.out.c0
          have z1 := Z_3.out.c1
          have z2 := Z_3.out.c2
          have zf := Z_3.out.nf
          have zl := Z_3.out.lt
          have EE : Hid (ImR u5 (q2.heap.size) (Value.slice r1 ((sdD d x)).live.length t1) (Value.slice r2 ((sdD d x)).safe.length t2) (Value.slice r3 ((sdD d x)).ops.length t3) (sdD d x) (((q3.setCell ⟨q2.heap.size, 0, none⟩ (Value.slice r1 ((sdD d x)).live.length t1)).setCell ⟨q2.heap.size, 1, none⟩ (Value.slice r2 ((sdD d x)).safe.length t2)).setCell ⟨q2.heap.size, 2, none⟩ (Value.slice r3 ((sdD d x)).ops.length t3))) := ImR.of Z_3.out FR_3.out K_3 lo
          go_simp
          refine hKq.out _ _ ?_ (fun hHeld => ?_)
          · exact sc_of (Nat.le_refl _) (bel_set3 K_3 lo)
          clear hKq Kq
          try simp only [Act.put, List.getElem_toArray, List.getElem_cons_zero, List.getElem_cons_succ, List.setIfInBounds_toArray, List.set_cons_zero, List.set_cons_succ]
          refine wpAnyH_take (i := 9) (v := ?_) rfl (by kernel_rfl) (by kernel_rfl) (by kernel_rfl) (fun _ _ _ h => h) (Or.inl ⟨by rfl, ?_⟩) (by assumption) ?_
          rotate_left
          · (intro wq hSw; (try dsimp only at hSw); go_simp <;> with_reducible rfl)
          try simp only [Act.put, List.getElem_toArray, List.getElem_cons_zero, List.getElem_cons_succ, List.setIfInBounds_toArray, List.set_cons_zero, List.set_cons_succ]
          refine wpAnyH_done (by kernel_rfl) ?_ _
          clear hHeld
          go_wp2_with fail
          go_meet
          exact ⟨_, _, _, _, rfl, rfl, EE.out⟩
        · go_simp
          obtain ⟨q4, HQ4⟩ : ∃ q, Hid ((q1.alloc (.cells #[.slice none 0 0, .slice none 0 0, .slice none 0 0] 27)) = q) := ⟨_, rfl⟩
          rw [HQ4.out]
          have hb : Below q1.heap.size q1 q4 := by rw [← HQ4.out]; exact (Below.refl _ _).alloc (Nat.le_refl _) _
          have Z_4 : Hid (BoxZ q4 q1.heap.size) := by rw [← HQ4.out]; exact BoxZ.at
          have lo : u5.heap.size ≤ q1.heap.size := K_1.size
          have K_4 : Below u5.heap.size u5 q4 := bchain K_1 hb
          clear hb
          refine hKq.out _ _ ?_ (fun hHeld => ?_)
          · exact sc_of (Nat.le_refl _) K_4
          clear hKq Kq
          try simp only [Act.put, List.getElem_toArray, List.getElem_cons_zero, List.getElem_cons_succ, List.setIfInBounds_toArray, List.set_cons_zero, List.set_cons_succ]
          refine wpAnyH_ready (rs := [3]) (by kernel_rfl) (by simp) (AllReadyH.cons rfl (fun Kq hKq => ?_) (AllReadyH.nil))
          go_simp
          refine (impl_Do x _ (X5.out.row.below K_4) HLL.out HXL.out).mono ?_
          rintro e q5 ⟨vo, rfl, ho, hb⟩
          rw [HCD.out]
          have hs5 := K_4.size
          obtain ⟨o1, o2, o3, rfl, h1, h2, h3, h4⟩ := ho
          obtain ⟨r1, t1, rfl, y1, y2⟩ := own_shape h1
          clear y1 y2
          obtain ⟨r2, t2, rfl, y1, y2⟩ := own_shape h2
          clear y1 y2
          obtain ⟨r3, t3, rfl, y1, y2⟩ := own_shape h3
          clear y1 y2
          have K_5 : Below u5.heap.size u5 q5 := bchain K_4 hb
          have Z_5 : Hid (BoxZ q5 q1.heap.size) := Z_4.out.below hb
          have FR_5 : Hid (DkOwn q5 u5.heap.size (.agg #[(Value.slice r1 ((sdD d x)).live.length t1), (Value.slice r2 ((sdD d x)).safe.length t2), (Value.slice r3 ((sdD d x)).ops.length t3)]) (sdD d x)) := ⟨_, _, _, rfl, own_mono h1 hs5, own_mono h2 hs5, own_mono h3 hs5, h4⟩
          clear hb h1 h2 h3
          refine hKq.out _ _ ?_ (fun hHeld => ?_)
          · exact sc_of (Nat.le_refl _) K_5
          clear hKq Kq
          try simp only [Act.put, List.getElem_toArray, List.getElem_cons_zero, List.getElem_cons_succ, List.setIfInBounds_toArray, List.set_cons_zero, List.set_cons_succ]
          refine wpAnyH_take (i := 4) (v := ?_) rfl (by kernel_rfl) (by kernel_rfl) (by kernel_rfl) (fun _ _ _ h => h) (Or.inl ⟨by rfl, ?_⟩) (by assumption) ?_
          rotate_left
          · (intro wq hSw; (try dsimp only at hSw); go_simp <;> with_reducible rfl)
          try simp only [Act.put, List.getElem_toArray, List.getElem_cons_zero, List.getElem_cons_succ, List.setIfInBounds_toArray, List.set_cons_zero, List.set_cons_succ]
          refine wpAnyH_take (i := 5) (v := ?_) rfl (by kernel_rfl) (by kernel_rfl) (by kernel_rfl) (fun _ _ _ h => h) (Or.inl ⟨by rfl, ?_⟩) (by assumption) ?_
          rotate_left
          · (intro wq hSw; (try dsimp only at hSw); go_simp <;> with_reducible rfl)
          try simp only [Act.put, List.getElem_toArray, List.getElem_cons_zero, List.getElem_cons_succ, List.setIfInBounds_toArray, List.set_cons_zero, List.set_cons_succ]
          refine wpAnyH_take (i := 6) (v := ?_) rfl (by kernel_rfl) (by kernel_rfl) (by kernel_rfl) (fun _ _ _ h => h) (Or.inl ⟨by rfl, ?_⟩) (by assumption) ?_
          rotate_left
          · (intro wq hSw; (try dsimp only at hSw); go_simp <;> with_reducible rfl)
          try simp only [Act.put, List.getElem_toArray, List.getElem_cons_zero, List.getElem_cons_succ, List.setIfInBounds_toArray, List.set_cons_zero, List.set_cons_succ]
          refine wpAnyH_ready (rs := [8]) (by kernel_rfl) (by simp) (AllReadyH.cons rfl (fun Kq hKq => ?_) (AllReadyH.nil))
          have z0 := Z_5.out.c0
          have z1 := Z_5.out.c1
          have z2 := Z_5.out.c2
          have zf := Z_5.out.nf
          have zl := Z_5.out.lt
          have EE : Hid (ImR u5 (q1.heap.size) (Value.slice r1 ((sdD d x)).live.length t1) (Value.slice r2 ((sdD d x)).safe.length t2) (Value.slice r3 ((sdD d x)).ops.length t3) (sdD d x) (((q5.setCell ⟨q1.heap.size, 0, none⟩ (Value.slice r1 ((sdD d x)).live.length t1)).setCell ⟨q1.heap.size, 1, none⟩ (Value.slice r2 ((sdD d x)).safe.length t2)).setCell ⟨q1.heap.size, 2, none⟩ (Value.slice r3 ((sdD d x)).ops.length t3))) := ImR.of Z_5.out FR_5.out K_5 lo
          go_simp
          refine hKq.out _ _ ?_ (fun hHeld => ?_)
          · exact sc_of (Nat.le_refl _) (bel_set3 K_5 lo)
          clear hKq Kq
          try simp only [Act.put, List.getElem_toArray, List.getElem_cons_zero, List.getElem_cons_succ, List.setIfInBounds_toArray, List.set_cons_zero, List.set_cons_succ]
          refine wpAnyH_take (i := 9) (v := ?_) rfl (by kernel_rfl) (by kernel_rfl) (by kernel_rfl) (fun _ _ _ h => h) (Or.inl ⟨by rfl, ?_⟩) (by assumption) ?_
          rotate_left
          · (intro wq hSw; (try dsimp only at hSw); go_simp <;> with_reducible rfl)
          try simp only [Act.put, List.getElem_toArray, List.getElem_cons_zero, List.getElem_cons_succ, List.setIfInBounds_toArray, List.set_cons_zero, List.set_cons_succ]
          refine wpAnyH_done (by kernel_rfl) ?_ _
          clear hHeld
          go_wp2_with fail
          go_meet
          exact ⟨_, _, _, _, rfl, rfl, EE.out⟩
      · go_simp
        obtain ⟨q6, HQ6⟩ : ∃ q, Hid ((u5.alloc (.cells #[.slice none 0 0, .slice none 0 0, .slice none 0 0] 27)).drew = q) := ⟨_, rfl⟩
        rw [HQ6.out]
        have hb : Below u5.drew.heap.size u5.drew q6 := by rw [← HQ6.out]; exact ⟨rfl, rfl, rfl, by simp, fun q hq => Below.heap_alloc u5 _ q hq⟩
        have Z_6 : Hid (BoxZ q6 u5.heap.size) := by rw [← HQ6.out]; exact BoxZ.at.drew
        have lo : u5.heap.size ≤ u5.drew.heap.size := KQ.size
        have K_6 : Below u5.heap.size u5 q6 := bchain KQ hb
        clear hb
        refine hKq.out _ _ ?_ (fun hHeld => ?_)
        · exact sc_of (Nat.le_refl _) K_6
        clear hKq Kq
        try simp only [Act.put, List.getElem_toArray, List.getElem_cons_zero, List.getElem_cons_succ, List.setIfInBounds_toArray, List.set_cons_zero, List.set_cons_succ]
        refine wpAnyH_ready (rs := [2]) (by kernel_rfl) (by simp) (AllReadyH.cons rfl (fun Kq hKq => ?_) (AllReadyH.nil))
        go_simp
        refine (laws_toDOp x _).mono ?_
        rintro e q7 ⟨rfl, hb⟩
        have K_7 : Below u5.heap.size u5 q7 := bchain K_6 hb
        have Z_7 : Hid (BoxZ q7 u5.heap.size) := Z_6.out.below hb
        clear hb
        refine hKq.out _ _ ?_ (fun hHeld => ?_)
        · exact sc_of (Nat.le_refl _) K_7
        clear hKq Kq
        try simp only [Act.put, List.getElem_toArray, List.getElem_cons_zero, List.getElem_cons_succ, List.setIfInBounds_toArray, List.set_cons_zero, List.set_cons_succ]
        refine wpAnyH_ready (rs := [3]) (by kernel_rfl) (by simp) (AllReadyH.cons rfl (fun Kq hKq => ?_) (AllReadyH.nil))
        go_simp
        refine (impl_Do x _ (X5.out.row.below K_7) HLL.out HXL.out).mono ?_
        rintro e q8 ⟨vo, rfl, ho, hb⟩
        rw [HCD.out]
        have hs8 := K_7.size
        obtain ⟨o1, o2, o3, rfl, h1, h2, h3, h4⟩ := ho
        obtain ⟨r1, t1, rfl, y1, y2⟩ := own_shape h1
        clear y1 y2
        obtain ⟨r2, t2, rfl, y1, y2⟩ := own_shape h2
        clear y1 y2
        obtain ⟨r3, t3, rfl, y1, y2⟩ := own_shape h3
        clear y1 y2
        have K_8 : Below u5.heap.size u5 q8 := bchain K_7 hb
        have Z_8 : Hid (BoxZ q8 u5.heap.size) := Z_7.out.below hb
        have FR_8 : Hid (DkOwn q8 u5.heap.size (.agg #[(Value.slice r1 ((sdD d x)).live.length t1), (Value.slice r2 ((sdD d x)).safe.length t2), (Value.slice r3 ((sdD d x)).ops.length t3)]) (sdD d x)) := ⟨_, _, _, rfl, own_mono h1 hs8, own_mono h2 hs8, own_mono h3 hs8, h4⟩
        clear hb h1 h2 h3
        refine hKq.out _ _ ?_ (fun hHeld => ?_)
        · exact sc_of (Nat.le_refl _) K_8
        clear hKq Kq
        try simp only [Act.put, List.getElem_toArray, List.getElem_cons_zero, List.getElem_cons_succ, List.setIfInBounds_toArray, List.set_cons_zero, List.set_cons_succ]
        refine wpAnyH_take (i := 4) (v := ?_) rfl (by kernel_rfl) (by kernel_rfl) (by kernel_rfl) (fun _ _ _ h => h) (Or.inl ⟨by rfl, ?_⟩) (by assumption) ?_
        rotate_left
        · (intro wq hSw; (try dsimp only at hSw); go_simp <;> with_reducible rfl)
        try simp only [Act.put, List.getElem_toArray, List.getElem_cons_zero, List.getElem_cons_succ, List.setIfInBounds_toArray, List.set_cons_zero, List.set_cons_succ]
        refine wpAnyH_take (i := 5) (v := ?_) rfl (by kernel_rfl) (by kernel_rfl) (by kernel_rfl) (fun _ _ _ h => h) (Or.inl ⟨by rfl, ?_⟩) (by assumption) ?_
        rotate_left
        · (intro wq hSw; (try dsimp only at hSw); go_simp <;> with_reducible rfl)
        try simp only [Act.put, List.getElem_toArray, List.getElem_cons_zero, List.getElem_cons_succ, List.setIfInBounds_toArray, List.set_cons_zero, List.set_cons_succ]
        refine wpAnyH_take (i := 6) (v := ?_) rfl (by kernel_rfl) (by kernel_rfl) (by kernel_rfl) (fun _ _ _ h => h) (Or.inl ⟨by rfl, ?_⟩) (by assumption) ?_
        rotate_left
        · (intro wq hSw; (try dsimp only at hSw); go_simp <;> with_reducible rfl)
        try simp only [Act.put, List.getElem_toArray, List.getElem_cons_zero, List.getElem_cons_succ, List.setIfInBounds_toArray, List.set_cons_zero, List.set_cons_succ]
        refine wpAnyH_ready (rs := [8]) (by kernel_rfl) (by simp) (AllReadyH.cons rfl (fun Kq hKq => ?_) (AllReadyH.nil))
        have z0 := Z_8.out.c0
        have z1 := Z_8.out.c1
        have z2 := Z_8.out.c2
        have zf := Z_8.out.nf
        have zl := Z_8.out.lt
        have EE : Hid (ImR u5 (u5.heap.size) (Value.slice r1 ((sdD d x)).live.length t1) (Value.slice r2 ((sdD d x)).safe.length t2) (Value.slice r3 ((sdD d x)).ops.length t3) (sdD d x) (((q8.setCell ⟨u5.heap.size, 0, none⟩ (Value.slice r1 ((sdD d x)).live.length t1)).setCell ⟨u5.heap.size, 1, none⟩ (Value.slice r2 ((sdD d x)).safe.length t2)).setCell ⟨u5.heap.size, 2, none⟩ (Value.slice r3 ((sdD d x)).ops.length t3))) := ImR.of Z_8.out FR_8.out K_8 lo
        go_simp
        refine hKq.out _ _ ?_ (fun hHeld => ?_)
        · exact sc_of (Nat.le_refl _) (bel_set3 K_8 lo)
        clear hKq Kq
        try simp only [Act.put, List.getElem_toArray, List.getElem_cons_zero, List.getElem_cons_succ, List.setIfInBounds_toArray, List.set_cons_zero, List.set_cons_succ]
        refine wpAnyH_take (i := 9) (v := ?_) rfl (by kernel_rfl) (by kernel_rfl) (by kernel_rfl) (fun _ _ _ h => h) (Or.inl ⟨by rfl, ?_⟩) (by assumption) ?_
        rotate_left
        · (intro wq hSw; (try dsimp only at hSw); go_simp <;> with_reducible rfl)
        try simp only [Act.put, List.getElem_toArray, List.getElem_cons_zero, List.getElem_cons_succ, List.setIfInBounds_toArray, List.set_cons_zero, List.set_cons_succ]
        refine wpAnyH_done (by kernel_rfl) ?_ _
        clear hHeld
        go_wp2_with fail
        go_meet
        exact ⟨_, _, _, _, rfl, rfl, EE.out⟩
    case rest =>
      obtain ⟨gg, vg1, vg2, vg3, rfl, rfl, hR⟩ := hcut
      obtain ⟨g1, g2, g3, gc1, gc2, gc3, gn1, gn2, gn3, ee⟩ := hR.own.row.agg
      cases ee
      have hb := hR.bel
      replace a_0 := cy hb (b := w.heap.size) (o := 0) (x := .slice a1 an1 ac1) (by go_simp)
      replace a_1 := cy hb (b := w.heap.size) (o := 1) (x := .slice a2 an2 ac2) (by go_simp)
      replace a_2 := cy hb (b := w.heap.size) (o := 2) (x := .slice a3 an3 ac3) (by go_simp)
      replace b_0 := cy hb (b := w.heap.size + 1) (o := 0) (x := .int .i64 x.k) (by go_simp)
      replace b_1 := cy hb (b := w.heap.size + 1) (o := 1) (x := .string x.n) (by go_simp)
      replace b_2 := cy hb (b := w.heap.size + 1) (o := 2) (x := .string x.t) (by go_simp)
      replace b_3 := cy hb (b := w.heap.size + 1) (o := 3) (x := .string x.d) (by go_simp)
      replace o_0 := cy hb (b := go) (o := 0) (x := .slice o1 on1 oc1) (by go_simp)
      replace o_1 := cy hb (b := go) (o := 1) (x := .slice o2 on2 oc2) (by go_simp)
      replace o_2 := cy hb (b := go) (o := 2) (x := .slice o3 on3 oc3) (by go_simp)
      replace x_0 := cy hb (b := u4.heap.size) (o := 0) (x := .slice x1 xn1 xc1) (by go_simp)
      replace x_1 := cy hb (b := u4.heap.size) (o := 1) (x := .slice x2 xn2 xc2) (by go_simp)
      replace x_2 := cy hb (b := u4.heap.size) (o := 2) (x := .slice x3 xn3 xc3) (by go_simp)
      have g_0 := hR.c0
      have g_1 := hR.c1
      have g_2 := hR.c2
      have G6 : Hid (DkOwn wc u5.heap.size (.agg #[.slice g1 gn1 gc1, .slice g2 gn2 gc2, .slice g3 gn3 gc3]) (sdD d x)) := hR.own
      have X6 : Hid (DkOwn wc v3w.heap.size (.agg #[.slice x1 xn1 xc1, .slice x2 xn2 xc2, .slice x3 xn3 xc3]) d) := X5.out.below hb
      have K6 : Hid (Below w.heap.size w wc) := bchain K5.out hb
      have O6 : Hid (Below v3w.heap.size v3w wc) := bchain O5.out hb
      have GLO : Hid (u5.heap.size ≤ gg) := hR.lo
      have GNB : Hid (¬ some gg ∈ blks (.agg #[.slice g1 gn1 gc1, .slice g2 gn2 gc2, .slice g3 gn3 gc3])) := hR.nb
      have GB : Hid (∀ q, some q ∈ blks (.agg #[.slice g1 gn1 gc1, .slice g2 gn2 gc2, .slice g3 gn3 gc3]) → u5.heap.size ≤ q ∧ q < wc.heap.size) := hR.own.blk
      have NGX : Hid (Apart (.agg #[.slice g1 gn1 gc1, .slice g2 gn2 gc2, .slice g3 gn3 gc3]) (.agg #[.slice x1 xn1 xc1, .slice x2 xn2 xc2, .slice x3 xn3 xc3])) := (apart_of X5.out hR.own (Nat.le_refl _)).2
      have s6g : gg < wc.heap.size := hR.hi
      have s6s := hb.size
      have s6a : w.heap.size < wc.heap.size := by omega
      have s6b : w.heap.size + 1 < wc.heap.size := by omega
      have s6o : go < wc.heap.size := by omega
      have s6x : u4.heap.size < wc.heap.size := by omega
      clear hb hR X5
      go_wp2_with fail
      refine (laws_eqDisk _ G6.out.row (O3.out.below O6.out)).mono ?_
      rintro e u7 ⟨rfl, hb⟩
      replace a_0 := cy hb (b := w.heap.size) (o := 0) (x := .slice a1 an1 ac1) (by go_simp)
      replace a_1 := cy hb (b := w.heap.size) (o := 1) (x := .slice a2 an2 ac2) (by go_simp)
      replace a_2 := cy hb (b := w.heap.size) (o := 2) (x := .slice a3 an3 ac3) (by go_simp)
      replace b_0 := cy hb (b := w.heap.size + 1) (o := 0) (x := .int .i64 x.k) (by go_simp)
      replace b_1 := cy hb (b := w.heap.size + 1) (o := 1) (x := .string x.n) (by go_simp)
      replace b_2 := cy hb (b := w.heap.size + 1) (o := 2) (x := .string x.t) (by go_simp)
      replace b_3 := cy hb (b := w.heap.size + 1) (o := 3) (x := .string x.d) (by go_simp)
      replace o_0 := cy hb (b := go) (o := 0) (x := .slice o1 on1 oc1) (by go_simp)
      replace o_1 := cy hb (b := go) (o := 1) (x := .slice o2 on2 oc2) (by go_simp)
      replace o_2 := cy hb (b := go) (o := 2) (x := .slice o3 on3 oc3) (by go_simp)
      replace x_0 := cy hb (b := u4.heap.size) (o := 0) (x := .slice x1 xn1 xc1) (by go_simp)
      replace x_1 := cy hb (b := u4.heap.size) (o := 1) (x := .slice x2 xn2 xc2) (by go_simp)
      replace x_2 := cy hb (b := u4.heap.size) (o := 2) (x := .slice x3 xn3 xc3) (by go_simp)
      replace g_0 := cy hb (b := gg) (o := 0) (x := .slice g1 gn1 gc1) (by go_simp)
      replace g_1 := cy hb (b := gg) (o := 1) (x := .slice g2 gn2 gc2) (by go_simp)
      replace g_2 := cy hb (b := gg) (o := 2) (x := .slice g3 gn3 gc3) (by go_simp)
      have G7 : Hid (DkOwn u7 u5.heap.size (.agg #[.slice g1 gn1 gc1, .slice g2 gn2 gc2, .slice g3 gn3 gc3]) (sdD d x)) := G6.out.below hb
      have X7 : Hid (DkOwn u7 v3w.heap.size (.agg #[.slice x1 xn1 xc1, .slice x2 xn2 xc2, .slice x3 xn3 xc3]) d) := X6.out.below hb
      have K7 : Hid (Below w.heap.size w u7) := bchain K6.out hb
      have O7 : Hid (Below v3w.heap.size v3w u7) := bchain O6.out hb
      have s7s := hb.size
      have s7a : w.heap.size < u7.heap.size := by omega
      have s7b : w.heap.size + 1 < u7.heap.size := by omega
      have s7o : go < u7.heap.size := by omega
      have s7x : u4.heap.size < u7.heap.size := by omega
      have s7g : gg < u7.heap.size := by omega
      clear hb G6 X6
      go_wp2_with fail
      go_region_held3 (fun w' => (∀ bq oq, bq < u7.heap.size → w'.cell? ⟨bq, oq, none⟩ = u7.cell? ⟨bq, oq, none⟩) ∧ u7.heap.size ≤ w'.heap.size ∧ Below u7.heap.size u7 w')
        (exact sc_of (Nat.le_refl _) (by go_grown))
        (first
        | (go_at_call 27; refine (laws_toDisk _ (HR.out.below (Below.trans K7.out (Below.mono (B := u7.heap.size) (by go_grown) K7.out.size))) HLL.out).mono ?_; rintro e y6 ⟨vy, rfl, ho6, hb⟩; obtain ⟨hk6, hz6⟩ := bframe (B := u7.heap.size) (X := u7) (by go_grown) (by go_size) hb; obtain ⟨e1, e2, e3, f1, f2, f3, j1, j2, j3, rfl⟩ := ho6.row.agg; have HY : Hid (DkRow y6 (.agg #[.slice e1 j1 f1, .slice e2 j2 f2, .slice e3 j3 f3]) d) := ho6.row; clear hb ho6)
        | (go_at_call 28; refine (laws_eqDisk _ (X7.out.row.below hk6) HY.out).mono ?_; rintro e u8 ⟨rfl, hb⟩; obtain ⟨hk8, hz8⟩ := bframe (B := u7.heap.size) (X := u7) hk6 hz6 hb; clear hb))
      have a_0q := a_0
      replace a_0 := cy hk8 a_0
      have a_1q := a_1
      replace a_1 := cy hk8 a_1
      have a_2q := a_2
      replace a_2 := cy hk8 a_2
      have b_0q := b_0
      replace b_0 := cy hk8 b_0
      have b_1q := b_1
      replace b_1 := cy hk8 b_1
      have b_2q := b_2
      replace b_2 := cy hk8 b_2
      have b_3q := b_3
      replace b_3 := cy hk8 b_3
      have o_0q := o_0
      replace o_0 := cy hk8 o_0
      have o_1q := o_1
      replace o_1 := cy hk8 o_1
      have o_2q := o_2
      replace o_2 := cy hk8 o_2
      have x_0q := x_0
      replace x_0 := cy hk8 x_0
      have x_1q := x_1
      replace x_1 := cy hk8 x_1
      have x_2q := x_2
      replace x_2 := cy hk8 x_2
      have g_0q := g_0
      replace g_0 := cy hk8 g_0
      have g_1q := g_1
      replace g_1 := cy hk8 g_1
      have g_2q := g_2
      replace g_2 := cy hk8 g_2
      have G8 : Hid (DkOwn u8 u5.heap.size (.agg #[.slice g1 gn1 gc1, .slice g2 gn2 gc2, .slice g3 gn3 gc3]) (sdD d x)) := G7.out.below hk8
      have X8 : Hid (DkOwn u8 v3w.heap.size (.agg #[.slice x1 xn1 xc1, .slice x2 xn2 xc2, .slice x3 xn3 xc3]) d) := X7.out.below hk8
      have K8 : Hid (Below w.heap.size w u8) := bchain K7.out hk8
      have O8 : Hid (Below v3w.heap.size v3w u8) := bchain O7.out hk8
      have s8a : w.heap.size < u8.heap.size := by omega
      have s8b : w.heap.size + 1 < u8.heap.size := by omega
      have s8o : go < u8.heap.size := by omega
      have s8x : u4.heap.size < u8.heap.size := by omega
      have s8g : gg < u8.heap.size := by omega
      clear hk6 hk8 HY G7 X7
      go_wp2_with fail
      refine (laws_markDisk _ X8.out O8.out.size ⟨HLL.out.n1, HLL.out.n2, HLL.out.n3⟩).mono ?_
      rintro e u9 ⟨rfl, _, y9, hb, gk⟩
      replace a_0 := cell_kept3 a_0 hb gk (fun hq => by have := XB.out _ hq; omega)
      replace a_1 := cell_kept3 a_1 hb gk (fun hq => by have := XB.out _ hq; omega)
      replace a_2 := cell_kept3 a_2 hb gk (fun hq => by have := XB.out _ hq; omega)
      replace b_0 := cell_kept3 b_0 hb gk (fun hq => by have := XB.out _ hq; omega)
      replace b_1 := cell_kept3 b_1 hb gk (fun hq => by have := XB.out _ hq; omega)
      replace b_2 := cell_kept3 b_2 hb gk (fun hq => by have := XB.out _ hq; omega)
      replace b_3 := cell_kept3 b_3 hb gk (fun hq => by have := XB.out _ hq; omega)
      replace o_0 := cell_kept3 o_0 hb gk (fun hq => by have := XB.out _ hq; omega)
      replace o_1 := cell_kept3 o_1 hb gk (fun hq => by have := XB.out _ hq; omega)
      replace o_2 := cell_kept3 o_2 hb gk (fun hq => by have := XB.out _ hq; omega)
      replace x_0 := cell_kept3 x_0 hb gk (fun hq => by have := XB.out _ hq; omega)
      replace x_1 := cell_kept3 x_1 hb gk (fun hq => by have := XB.out _ hq; omega)
      replace x_2 := cell_kept3 x_2 hb gk (fun hq => by have := XB.out _ hq; omega)
      replace g_0 := cell_kept3 g_0 hb gk (fun hq => by have := XB.out _ hq; have := GLO.out; omega)
      replace g_1 := cell_kept3 g_1 hb gk (fun hq => by have := XB.out _ hq; have := GLO.out; omega)
      replace g_2 := cell_kept3 g_2 hb gk (fun hq => by have := XB.out _ hq; have := GLO.out; omega)
      have G9 : Hid (DkOwn u9 u5.heap.size (.agg #[.slice g1 gn1 gc1, .slice g2 gn2 gc2, .slice g3 gn3 gc3]) (sdD d x)) := (G8.out.below hb).kept gk NGX.out
      have K9 : Hid (Below w.heap.size w u9) := below_grown3 (bchain K8.out hb) (Nat.le_trans K8.out.size hb.size) gk (fun q hq => by have := XB.out q hq; omega)
      have O9 : Hid (Below v3w.heap.size v3w u9) := below_grown3 (bchain O8.out hb) (Nat.le_trans O8.out.size hb.size) gk (fun q hq => by have := XB.out q hq; omega)
      have s9a : w.heap.size < u9.heap.size := World.block_lt_of_cell? u9 ⟨w.heap.size, 0, none⟩ a_0
      have s9b : w.heap.size + 1 < u9.heap.size := World.block_lt_of_cell? u9 ⟨w.heap.size + 1, 0, none⟩ b_0
      have s9o : go < u9.heap.size := World.block_lt_of_cell? u9 ⟨go, 0, none⟩ o_0
      have s9x : u4.heap.size < u9.heap.size := World.block_lt_of_cell? u9 ⟨u4.heap.size, 0, none⟩ x_0
      have s9g : gg < u9.heap.size := World.block_lt_of_cell? u9 ⟨gg, 0, none⟩ g_0
      clear hb gk G8 X8
      obtain ⟨kk, HKK⟩ : ∃ kk : Int, Hid (1 + (d.live.length : Int) * 2 + (d.safe.length : Int) * 2 + (d.ops.length : Int) * 4 = kk) := ⟨_, rfl⟩
      have hkk : ¬ kk < 0 := by have := HKK.out; omega
      rw [HKK.out]
      go_wp2_with fail
      refine (laws_eqDisk _ G9.out.row (O3.out.below O9.out)).mono ?_
      rintro e u10 ⟨rfl, hb⟩
      replace a_0 := cy hb (b := w.heap.size) (o := 0) (x := .slice a1 an1 ac1) (by go_simp)
      replace a_1 := cy hb (b := w.heap.size) (o := 1) (x := .slice a2 an2 ac2) (by go_simp)
      replace a_2 := cy hb (b := w.heap.size) (o := 2) (x := .slice a3 an3 ac3) (by go_simp)
      replace b_0 := cy hb (b := w.heap.size + 1) (o := 0) (x := .int .i64 x.k) (by go_simp)
      replace b_1 := cy hb (b := w.heap.size + 1) (o := 1) (x := .string x.n) (by go_simp)
      replace b_2 := cy hb (b := w.heap.size + 1) (o := 2) (x := .string x.t) (by go_simp)
      replace b_3 := cy hb (b := w.heap.size + 1) (o := 3) (x := .string x.d) (by go_simp)
      replace o_0 := cy hb (b := go) (o := 0) (x := .slice o1 on1 oc1) (by go_simp)
      replace o_1 := cy hb (b := go) (o := 1) (x := .slice o2 on2 oc2) (by go_simp)
      replace o_2 := cy hb (b := go) (o := 2) (x := .slice o3 on3 oc3) (by go_simp)
      replace x_0 := cy hb (b := u4.heap.size) (o := 0) (x := .slice x1 xn1 xc1) (by go_simp)
      replace x_1 := cy hb (b := u4.heap.size) (o := 1) (x := .slice x2 xn2 xc2) (by go_simp)
      replace x_2 := cy hb (b := u4.heap.size) (o := 2) (x := .slice x3 xn3 xc3) (by go_simp)
      replace g_0 := cy hb (b := gg) (o := 0) (x := .slice g1 gn1 gc1) (by go_simp)
      replace g_1 := cy hb (b := gg) (o := 1) (x := .slice g2 gn2 gc2) (by go_simp)
      replace g_2 := cy hb (b := gg) (o := 2) (x := .slice g3 gn3 gc3) (by go_simp)
      have G10 : Hid (DkOwn u10 u5.heap.size (.agg #[.slice g1 gn1 gc1, .slice g2 gn2 gc2, .slice g3 gn3 gc3]) (sdD d x)) := G9.out.below hb
      have K10 : Hid (Below w.heap.size w u10) := bchain K9.out hb
      have O10 : Hid (Below v3w.heap.size v3w u10) := bchain O9.out hb
      have B10 : u5.heap.size ≤ u10.heap.size := by have := GLO.out; have := hb.size; omega
      clear hb G9
      have s10a : w.heap.size < u10.heap.size := World.block_lt_of_cell? u10 ⟨w.heap.size, 0, none⟩ a_0
      have s10b : w.heap.size + 1 < u10.heap.size := World.block_lt_of_cell? u10 ⟨w.heap.size + 1, 0, none⟩ b_0
      have s10o : go < u10.heap.size := World.block_lt_of_cell? u10 ⟨go, 0, none⟩ o_0
      have s10x : u4.heap.size < u10.heap.size := World.block_lt_of_cell? u10 ⟨u4.heap.size, 0, none⟩ x_0
      have s10g : gg < u10.heap.size := World.block_lt_of_cell? u10 ⟨gg, 0, none⟩ g_0
      go_wp2_with fail
      refine (laws_markDisk _ G10.out B10 (sdD_len HLL.out)).mono ?_
      rintro e u11 ⟨rfl, hm, y11, hb, gk⟩
      replace a_0 := cell_kept3 a_0 hb gk (fun hq => by have := GB.out _ hq; omega)
      replace a_1 := cell_kept3 a_1 hb gk (fun hq => by have := GB.out _ hq; omega)
      replace a_2 := cell_kept3 a_2 hb gk (fun hq => by have := GB.out _ hq; omega)
      replace b_0 := cell_kept3 b_0 hb gk (fun hq => by have := GB.out _ hq; omega)
      replace b_1 := cell_kept3 b_1 hb gk (fun hq => by have := GB.out _ hq; omega)
      replace b_2 := cell_kept3 b_2 hb gk (fun hq => by have := GB.out _ hq; omega)
      replace b_3 := cell_kept3 b_3 hb gk (fun hq => by have := GB.out _ hq; omega)
      replace o_0 := cell_kept3 o_0 hb gk (fun hq => by have := GB.out _ hq; omega)
      replace o_1 := cell_kept3 o_1 hb gk (fun hq => by have := GB.out _ hq; omega)
      replace o_2 := cell_kept3 o_2 hb gk (fun hq => by have := GB.out _ hq; omega)
      replace x_0 := cell_kept3 x_0 hb gk (fun hq => by have := GB.out _ hq; omega)
      replace x_1 := cell_kept3 x_1 hb gk (fun hq => by have := GB.out _ hq; omega)
      replace x_2 := cell_kept3 x_2 hb gk (fun hq => by have := GB.out _ hq; omega)
      replace g_0 := cell_kept3 g_0 hb gk (GNB.out)
      replace g_1 := cell_kept3 g_1 hb gk (GNB.out)
      replace g_2 := cell_kept3 g_2 hb gk (GNB.out)
      obtain ⟨m1, HM1⟩ : ∃ m1, Hid (((sdD d x)).live.length = m1) := ⟨_, rfl⟩
      obtain ⟨m2, HM2⟩ : ∃ m2, Hid (((sdD d x)).safe.length = m2) := ⟨_, rfl⟩
      obtain ⟨m3, HM3⟩ : ∃ m3, Hid (((sdD d x)).ops.length = m3) := ⟨_, rfl⟩
      have hm123 : m1 ≤ 1048576 ∧ m2 ≤ 1048576 ∧ m3 ≤ 1048576 := by rw [← HM1.out, ← HM2.out, ← HM3.out]; exact (sdD_len HLL.out)
      rw [HM1.out, HM2.out, HM3.out] at hm ⊢
      have M11 : Hid (DkOwn u11 u5.heap.size (.agg #[.slice g1 gn1 gc1, .slice g2 gn2 gc2, .slice g3 gn3 gc3]) (dkMk 1 m1 m2 m3)) := hm
      have K11 : Hid (Below w.heap.size w u11) := below_grown3 (bchain K10.out hb) (Nat.le_trans K10.out.size hb.size) gk (fun q hq => by have := GB.out q hq; omega)
      have O11 : Hid (Below v3w.heap.size v3w u11) := below_grown3 (bchain O10.out hb) (Nat.le_trans O10.out.size hb.size) gk (fun q hq => by have := GB.out q hq; omega)
      clear hb gk hm G10
      obtain ⟨mm, HMM⟩ : ∃ mm : Int, Hid (1 + (m1 : Int) * 2 + (m2 : Int) * 2 + (m3 : Int) * 4 = mm) := ⟨_, rfl⟩
      have hmm : ¬ mm < 0 := by have := HMM.out; omega
      have hmn : (mm != mm) = false := by simp
      rw [HMM.out]
      have s11a : w.heap.size < u11.heap.size := World.block_lt_of_cell? u11 ⟨w.heap.size, 0, none⟩ a_0
      have s11b : w.heap.size + 1 < u11.heap.size := World.block_lt_of_cell? u11 ⟨w.heap.size + 1, 0, none⟩ b_0
      have s11o : go < u11.heap.size := World.block_lt_of_cell? u11 ⟨go, 0, none⟩ o_0
      have s11x : u4.heap.size < u11.heap.size := World.block_lt_of_cell? u11 ⟨u4.heap.size, 0, none⟩ x_0
      have s11g : gg < u11.heap.size := World.block_lt_of_cell? u11 ⟨gg, 0, none⟩ g_0
      go_wp2_with fail
      refine (laws_heldDisk _ M11.out.row hm123.1 hm123.2.1 hm123.2.2).mono ?_
      rintro e u12 ⟨rfl, hb⟩
      replace a_0 := cy hb (b := w.heap.size) (o := 0) (x := .slice a1 an1 ac1) (by go_simp)
      replace a_1 := cy hb (b := w.heap.size) (o := 1) (x := .slice a2 an2 ac2) (by go_simp)
      replace a_2 := cy hb (b := w.heap.size) (o := 2) (x := .slice a3 an3 ac3) (by go_simp)
      replace b_0 := cy hb (b := w.heap.size + 1) (o := 0) (x := .int .i64 x.k) (by go_simp)
      replace b_1 := cy hb (b := w.heap.size + 1) (o := 1) (x := .string x.n) (by go_simp)
      replace b_2 := cy hb (b := w.heap.size + 1) (o := 2) (x := .string x.t) (by go_simp)
      replace b_3 := cy hb (b := w.heap.size + 1) (o := 3) (x := .string x.d) (by go_simp)
      replace o_0 := cy hb (b := go) (o := 0) (x := .slice o1 on1 oc1) (by go_simp)
      replace o_1 := cy hb (b := go) (o := 1) (x := .slice o2 on2 oc2) (by go_simp)
      replace o_2 := cy hb (b := go) (o := 2) (x := .slice o3 on3 oc3) (by go_simp)
      replace x_0 := cy hb (b := u4.heap.size) (o := 0) (x := .slice x1 xn1 xc1) (by go_simp)
      replace x_1 := cy hb (b := u4.heap.size) (o := 1) (x := .slice x2 xn2 xc2) (by go_simp)
      replace x_2 := cy hb (b := u4.heap.size) (o := 2) (x := .slice x3 xn3 xc3) (by go_simp)
      replace g_0 := cy hb (b := gg) (o := 0) (x := .slice g1 gn1 gc1) (by go_simp)
      replace g_1 := cy hb (b := gg) (o := 1) (x := .slice g2 gn2 gc2) (by go_simp)
      replace g_2 := cy hb (b := gg) (o := 2) (x := .slice g3 gn3 gc3) (by go_simp)
      have M12 : Hid (DkOwn u12 u5.heap.size (.agg #[.slice g1 gn1 gc1, .slice g2 gn2 gc2, .slice g3 gn3 gc3]) (dkMk 1 m1 m2 m3)) := M11.out.below hb
      have K12 : Hid (Below w.heap.size w u12) := bchain K11.out hb
      have O12 : Hid (Below v3w.heap.size v3w u12) := bchain O11.out hb
      clear hb M11
      rw [HMM.out]
      have s12a : w.heap.size < u12.heap.size := World.block_lt_of_cell? u12 ⟨w.heap.size, 0, none⟩ a_0
      have s12b : w.heap.size + 1 < u12.heap.size := World.block_lt_of_cell? u12 ⟨w.heap.size + 1, 0, none⟩ b_0
      have s12o : go < u12.heap.size := World.block_lt_of_cell? u12 ⟨go, 0, none⟩ o_0
      have s12x : u4.heap.size < u12.heap.size := World.block_lt_of_cell? u12 ⟨u4.heap.size, 0, none⟩ x_0
      have s12g : gg < u12.heap.size := World.block_lt_of_cell? u12 ⟨gg, 0, none⟩ g_0
      go_upto_region 27 with fail
      go_cut [14, 15] (fun vb vc wx => ∃ g v1 v2 v3, vb = .pointer (some ⟨g, 0, none⟩) ∧ vc = .int .i64 cd ∧ ImR u12 g v1 v2 v3 (sdD d x) wx)
      case first =>
        have KQ : Below u12.heap.size u12 u12.drew := (Below.refl _ _).drew
        refine wp_region_held_drew (S := (fun w' => (∀ bq oq, bq < u12.heap.size → w'.cell? ⟨bq, oq, none⟩ = u12.cell? ⟨bq, oq, none⟩) ∧ u12.heap.size ≤ w'.heap.size ∧ Below u12.heap.size u12 w')) (by kernel_rfl) (sc_of (Nat.le_refl _) (by go_grown)) (fun hHeld => ?_)
        refine wpAnyH_take (i := 0) (v := ?_) rfl (by kernel_rfl) (by kernel_rfl) (by kernel_rfl) (fun _ _ _ h => h) (Or.inl ⟨by rfl, ?_⟩) (by assumption) ?_
        rotate_left
        · (intro wq hSw; (try dsimp only at hSw); go_simp <;> with_reducible rfl)
        try simp only [Act.put, List.getElem_toArray, List.getElem_cons_zero, List.getElem_cons_succ, List.setIfInBounds_toArray, List.set_cons_zero, List.set_cons_succ]
        refine wpAnyH_take (i := 2) (v := ?_) rfl (by kernel_rfl) (by kernel_rfl) (by kernel_rfl) (fun _ _ _ h => h) (Or.inl ⟨by rfl, ?_⟩) (by assumption) ?_
        rotate_left
        · (intro wq hSw; (try dsimp only at hSw); go_simp <;> with_reducible rfl)
        try simp only [Act.put, List.getElem_toArray, List.getElem_cons_zero, List.getElem_cons_succ, List.setIfInBounds_toArray, List.set_cons_zero, List.set_cons_succ]
        refine wpAnyH_ready (rs := [1, 8]) (by kernel_rfl) (by simp) (AllReadyH.cons rfl (fun Kq hKq => ?_) (AllReadyH.cons rfl (fun Kq hKq => ?_) (AllReadyH.nil)))
        · go_simp
          refine (laws_toDisk _ (HR.out.below (bchain K12.out KQ)) HLL.out).mono ?_
          rintro e q1 ⟨vt1, rfl, ho, hb⟩
          have K_1 : Below u12.heap.size u12 q1 := bchain KQ hb
          have FT_1 : Hid (DkRow q1 vt1 d) := ho.row
          clear hb ho
          refine hKq.out _ _ ?_ (fun hHeld => ?_)
          · exact sc_of (Nat.le_refl _) K_1
          clear hKq Kq
          try simp only [Act.put, List.getElem_toArray, List.getElem_cons_zero, List.getElem_cons_succ, List.setIfInBounds_toArray, List.set_cons_zero, List.set_cons_succ]
          refine wpAnyH_ready (rs := [3, 8]) (by kernel_rfl) (by simp) (AllReadyH.cons rfl (fun Kq hKq => ?_) (AllReadyH.cons rfl (fun Kq hKq => ?_) (AllReadyH.nil)))
          · go_simp
            refine (laws_toDOp x _).mono ?_
            rintro e q2 ⟨rfl, hb⟩
            have K_2 : Below u12.heap.size u12 q2 := bchain K_1 hb
            have FT_2 : Hid (DkRow q2 vt1 d) := (FT_1.out).below hb
            clear hb
            refine hKq.out _ _ ?_ (fun hHeld => ?_)
            · exact sc_of (Nat.le_refl _) K_2
            clear hKq Kq
            try simp only [Act.put, List.getElem_toArray, List.getElem_cons_zero, List.getElem_cons_succ, List.setIfInBounds_toArray, List.set_cons_zero, List.set_cons_succ]
            refine wpAnyH_ready (rs := [4, 8]) (by kernel_rfl) (by simp) (AllReadyH.cons rfl (fun Kq hKq => ?_) (AllReadyH.cons rfl (fun Kq hKq => ?_) (AllReadyH.nil)))
            · go_simp
              refine (impl_Do x _ (FT_2.out) HLL.out HXL.out).mono ?_
              rintro e q3 ⟨vo, rfl, ho, hb⟩
              rw [HCD.out]
              have hs3 := K_2.size
              obtain ⟨o1, o2, o3, rfl, h1, h2, h3, h4⟩ := ho
              obtain ⟨r1, t1, rfl, y1, y2⟩ := own_shape h1
              clear y1 y2
              obtain ⟨r2, t2, rfl, y1, y2⟩ := own_shape h2
              clear y1 y2
              obtain ⟨r3, t3, rfl, y1, y2⟩ := own_shape h3
              clear y1 y2
              have K_3 : Below u12.heap.size u12 q3 := bchain K_2 hb
              have FR_3 : Hid (DkOwn q3 u12.heap.size (.agg #[(Value.slice r1 ((sdD d x)).live.length t1), (Value.slice r2 ((sdD d x)).safe.length t2), (Value.slice r3 ((sdD d x)).ops.length t3)]) (sdD d x)) := ⟨_, _, _, rfl, own_mono h1 hs3, own_mono h2 hs3, own_mono h3 hs3, h4⟩
              clear hb h1 h2 h3
              refine hKq.out _ _ ?_ (fun hHeld => ?_)
              · exact sc_of (Nat.le_refl _) K_3
              clear hKq Kq
              try simp only [Act.put, List.getElem_toArray, List.getElem_cons_zero, List.getElem_cons_succ, List.setIfInBounds_toArray, List.set_cons_zero, List.set_cons_succ]
              refine wpAnyH_take (i := 5) (v := ?_) rfl (by kernel_rfl) (by kernel_rfl) (by kernel_rfl) (fun _ _ _ h => h) (Or.inl ⟨by rfl, ?_⟩) (by assumption) ?_
              rotate_left
              · (intro wq hSw; (try dsimp only at hSw); go_simp <;> with_reducible rfl)
              try simp only [Act.put, List.getElem_toArray, List.getElem_cons_zero, List.getElem_cons_succ, List.setIfInBounds_toArray, List.set_cons_zero, List.set_cons_succ]
              refine wpAnyH_take (i := 6) (v := ?_) rfl (by kernel_rfl) (by kernel_rfl) (by kernel_rfl) (fun _ _ _ h => h) (Or.inl ⟨by rfl, ?_⟩) (by assumption) ?_
              rotate_left
              · (intro wq hSw; (try dsimp only at hSw); go_simp <;> with_reducible rfl)
              try simp only [Act.put, List.getElem_toArray, List.getElem_cons_zero, List.getElem_cons_succ, List.setIfInBounds_toArray, List.set_cons_zero, List.set_cons_succ]
              refine wpAnyH_take (i := 7) (v := ?_) rfl (by kernel_rfl) (by kernel_rfl) (by kernel_rfl) (fun _ _ _ h => h) (Or.inl ⟨by rfl, ?_⟩) (by assumption) ?_
              rotate_left
              · (intro wq hSw; (try dsimp only at hSw); go_simp <;> with_reducible rfl)
              try simp only [Act.put, List.getElem_toArray, List.getElem_cons_zero, List.getElem_cons_succ, List.setIfInBounds_toArray, List.set_cons_zero, List.set_cons_succ]
              refine wpAnyH_ready (rs := [8]) (by kernel_rfl) (by simp) (AllReadyH.cons rfl (fun Kq hKq => ?_) (AllReadyH.nil))
              go_simp
              obtain ⟨q4, HQ4⟩ : ∃ q, Hid ((q3.alloc (.cells #[.slice none 0 0, .slice none 0 0, .slice none 0 0] 27)) = q) := ⟨_, rfl⟩
              rw [HQ4.out]
              have hb : Below q3.heap.size q3 q4 := by rw [← HQ4.out]; exact (Below.refl _ _).alloc (Nat.le_refl _) _
              have Z_4 : Hid (BoxZ q4 q3.heap.size) := by rw [← HQ4.out]; exact BoxZ.at
              have lo : u12.heap.size ≤ q3.heap.size := K_3.size
              have K_4 : Below u12.heap.size u12 q4 := bchain K_3 hb
              have FR_4 : Hid (DkOwn q4 u12.heap.size (.agg #[(Value.slice r1 ((sdD d x)).live.length t1), (Value.slice r2 ((sdD d x)).safe.length t2), (Value.slice r3 ((sdD d x)).ops.length t3)]) (sdD d x)) := (FR_3.out).below hb
              clear hb
              refine hKq.out _ _ ?_ (fun hHeld => ?_)
              · exact sc_of (Nat.le_refl _) K_4
              clear hKq Kq
              try simp only [Act.put, List.getElem_toArray, List.getElem_cons_zero, List.getElem_cons_succ, List.setIfInBounds_toArray, List.set_cons_zero, List.set_cons_succ]
              refine wpAnyH_ready (rs := [9]) (by kernel_rfl) (by simp) (AllReadyH.cons rfl (fun Kq hKq => ?_) (AllReadyH.nil))
              have z0 := Z_4.out.c0
              have z1 := Z_4.out.c1
              have z2 := Z_4.out.c2
              have zf := Z_4.out.nf
              have zl := Z_4.out.lt
              have EE : Hid (ImR u12 (q3.heap.size) (Value.slice r1 ((sdD d x)).live.length t1) (Value.slice r2 ((sdD d x)).safe.length t2) (Value.slice r3 ((sdD d x)).ops.length t3) (sdD d x) (((q4.setCell ⟨q3.heap.size, 0, none⟩ (Value.slice r1 ((sdD d x)).live.length t1)).setCell ⟨q3.heap.size, 1, none⟩ (Value.slice r2 ((sdD d x)).safe.length t2)).setCell ⟨q3.heap.size, 2, none⟩ (Value.slice r3 ((sdD d x)).ops.length t3))) := ImR.of Z_4.out FR_4.out K_4 lo
              go_simp
              refine hKq.out _ _ ?_ (fun hHeld => ?_)
              · exact sc_of (Nat.le_refl _) (bel_set3 K_4 lo)
              clear hKq Kq
              try simp only [Act.put, List.getElem_toArray, List.getElem_cons_zero, List.getElem_cons_succ, List.setIfInBounds_toArray, List.set_cons_zero, List.set_cons_succ]
              refine wpAnyH_take (i := 10) (v := ?_) rfl (by kernel_rfl) (by kernel_rfl) (by kernel_rfl) (fun _ _ _ h => h) (Or.inl ⟨by rfl, ?_⟩) (by assumption) ?_
              rotate_left
              · (intro wq hSw; (try dsimp only at hSw); go_simp <;> with_reducible rfl)
              try simp only [Act.put, List.getElem_toArray, List.getElem_cons_zero, List.getElem_cons_succ, List.setIfInBounds_toArray, List.set_cons_zero, List.set_cons_succ]
              refine wpAnyH_done (by kernel_rfl) ?_ _
              clear hHeld
              go_wp2_with fail
              go_meet
              exact ⟨_, _, _, _, rfl, rfl, EE.out⟩
            · go_simp
              obtain ⟨q5, HQ5⟩ : ∃ q, Hid ((q2.alloc (.cells #[.slice none 0 0, .slice none 0 0, .slice none 0 0] 27)) = q) := ⟨_, rfl⟩
              rw [HQ5.out]
              have hb : Below q2.heap.size q2 q5 := by rw [← HQ5.out]; exact (Below.refl _ _).alloc (Nat.le_refl _) _
              have Z_5 : Hid (BoxZ q5 q2.heap.size) := by rw [← HQ5.out]; exact BoxZ.at
              have lo : u12.heap.size ≤ q2.heap.size := K_2.size
              have K_5 : Below u12.heap.size u12 q5 := bchain K_2 hb
              have FT_5 : Hid (DkRow q5 vt1 d) := (FT_2.out).below hb
              clear hb
              refine hKq.out _ _ ?_ (fun hHeld => ?_)
              · exact sc_of (Nat.le_refl _) K_5
              clear hKq Kq
              try simp only [Act.put, List.getElem_toArray, List.getElem_cons_zero, List.getElem_cons_succ, List.setIfInBounds_toArray, List.set_cons_zero, List.set_cons_succ]
              refine wpAnyH_ready (rs := [4]) (by kernel_rfl) (by simp) (AllReadyH.cons rfl (fun Kq hKq => ?_) (AllReadyH.nil))
              go_simp
              refine (impl_Do x _ (FT_5.out) HLL.out HXL.out).mono ?_
              rintro e q6 ⟨vo, rfl, ho, hb⟩
              rw [HCD.out]
              have hs6 := K_5.size
              obtain ⟨o1, o2, o3, rfl, h1, h2, h3, h4⟩ := ho
              obtain ⟨r1, t1, rfl, y1, y2⟩ := own_shape h1
              clear y1 y2
              obtain ⟨r2, t2, rfl, y1, y2⟩ := own_shape h2
              clear y1 y2
              obtain ⟨r3, t3, rfl, y1, y2⟩ := own_shape h3
              clear y1 y2
              have K_6 : Below u12.heap.size u12 q6 := bchain K_5 hb
              have Z_6 : Hid (BoxZ q6 q2.heap.size) := Z_5.out.below hb
              have FR_6 : Hid (DkOwn q6 u12.heap.size (.agg #[(Value.slice r1 ((sdD d x)).live.length t1), (Value.slice r2 ((sdD d x)).safe.length t2), (Value.slice r3 ((sdD d x)).ops.length t3)]) (sdD d x)) := ⟨_, _, _, rfl, own_mono h1 hs6, own_mono h2 hs6, own_mono h3 hs6, h4⟩
              clear hb h1 h2 h3
              refine hKq.out _ _ ?_ (fun hHeld => ?_)
              · exact sc_of (Nat.le_refl _) K_6
              clear hKq Kq
              try simp only [Act.put, List.getElem_toArray, List.getElem_cons_zero, List.getElem_cons_succ, List.setIfInBounds_toArray, List.set_cons_zero, List.set_cons_succ]
              refine wpAnyH_take (i := 5) (v := ?_) rfl (by kernel_rfl) (by kernel_rfl) (by kernel_rfl) (fun _ _ _ h => h) (Or.inl ⟨by rfl, ?_⟩) (by assumption) ?_
              rotate_left
              · (intro wq hSw; (try dsimp only at hSw); go_simp <;> with_reducible rfl)
              try simp only [Act.put, List.getElem_toArray, List.getElem_cons_zero, List.getElem_cons_succ, List.setIfInBounds_toArray, List.set_cons_zero, List.set_cons_succ]
              refine wpAnyH_take (i := 6) (v := ?_) rfl (by kernel_rfl) (by kernel_rfl) (by kernel_rfl) (fun _ _ _ h => h) (Or.inl ⟨by rfl, ?_⟩) (by assumption) ?_
              rotate_left
              · (intro wq hSw; (try dsimp only at hSw); go_simp <;> with_reducible rfl)
              try simp only [Act.put, List.getElem_toArray, List.getElem_cons_zero, List.getElem_cons_succ, List.setIfInBounds_toArray, List.set_cons_zero, List.set_cons_succ]
              refine wpAnyH_take (i := 7) (v := ?_) rfl (by kernel_rfl) (by kernel_rfl) (by kernel_rfl) (fun _ _ _ h => h) (Or.inl ⟨by rfl, ?_⟩) (by assumption) ?_
              rotate_left
              · (intro wq hSw; (try dsimp only at hSw); go_simp <;> with_reducible rfl)
              try simp only [Act.put, List.getElem_toArray, List.getElem_cons_zero, List.getElem_cons_succ, List.setIfInBounds_toArray, List.set_cons_zero, List.set_cons_succ]
              refine wpAnyH_ready (rs := [9]) (by kernel_rfl) (by simp) (AllReadyH.cons rfl (fun Kq hKq => ?_) (AllReadyH.nil))
              have z0 := Z_6.out.c0
              have z1 := Z_6.out.c1
              have z2 := Z_6.out.c2
              have zf := Z_6.out.nf
              have zl := Z_6.out.lt
              have EE : Hid (ImR u12 (q2.heap.size) (Value.slice r1 ((sdD d x)).live.length t1) (Value.slice r2 ((sdD d x)).safe.length t2) (Value.slice r3 ((sdD d x)).ops.length t3) (sdD d x) (((q6.setCell ⟨q2.heap.size, 0, none⟩ (Value.slice r1 ((sdD d x)).live.length t1)).setCell ⟨q2.heap.size, 1, none⟩ (Value.slice r2 ((sdD d x)).safe.length t2)).setCell ⟨q2.heap.size, 2, none⟩ (Value.slice r3 ((sdD d x)).ops.length t3))) := ImR.of Z_6.out FR_6.out K_6 lo
              go_simp
              refine hKq.out _ _ ?_ (fun hHeld => ?_)
              · exact sc_of (Nat.le_refl _) (bel_set3 K_6 lo)
              clear hKq Kq
              try simp only [Act.put, List.getElem_toArray, List.getElem_cons_zero, List.getElem_cons_succ, List.setIfInBounds_toArray, List.set_cons_zero, List.set_cons_succ]
              refine wpAnyH_take (i := 10) (v := ?_) rfl (by kernel_rfl) (by kernel_rfl) (by kernel_rfl) (fun _ _ _ h => h) (Or.inl ⟨by rfl, ?_⟩) (by assumption) ?_
              rotate_left
              · (intro wq hSw; (try dsimp only at hSw); go_simp <;> with_reducible rfl)
              try simp only [Act.put, List.getElem_toArray, List.getElem_cons_zero, List.getElem_cons_succ, List.setIfInBounds_toArray, List.set_cons_zero, List.set_cons_succ]
              refine wpAnyH_done (by kernel_rfl) ?_ _
              clear hHeld
              go_wp2_with fail
              go_meet
              exact ⟨_, _, _, _, rfl, rfl, EE.out⟩
          · go_simp
            obtain ⟨q7, HQ7⟩ : ∃ q, Hid ((q1.alloc (.cells #[.slice none 0 0, .slice none 0 0, .slice none 0 0] 27)) = q) := ⟨_, rfl⟩
            rw [HQ7.out]
            have hb : Below q1.heap.size q1 q7 := by rw [← HQ7.out]; exact (Below.refl _ _).alloc (Nat.le_refl _) _
            have Z_7 : Hid (BoxZ q7 q1.heap.size) := by rw [← HQ7.out]; exact BoxZ.at
            have lo : u12.heap.size ≤ q1.heap.size := K_1.size
            have K_7 : Below u12.heap.size u12 q7 := bchain K_1 hb
            have FT_7 : Hid (DkRow q7 vt1 d) := (FT_1.out).below hb
            clear hb
            refine hKq.out _ _ ?_ (fun hHeld => ?_)
            · exact sc_of (Nat.le_refl _) K_7
            clear hKq Kq
            try simp only [Act.put, List.getElem_toArray, List.getElem_cons_zero, List.getElem_cons_succ, List.setIfInBounds_toArray, List.set_cons_zero, List.set_cons_succ]
            refine wpAnyH_ready (rs := [3]) (by kernel_rfl) (by simp) (AllReadyH.cons rfl (fun Kq hKq => ?_) (AllReadyH.nil))
            go_simp
            refine (laws_toDOp x _).mono ?_
            rintro e q8 ⟨rfl, hb⟩
            have K_8 : Below u12.heap.size u12 q8 := bchain K_7 hb
            have Z_8 : Hid (BoxZ q8 q1.heap.size) := Z_7.out.below hb
            have FT_8 : Hid (DkRow q8 vt1 d) := (FT_7.out).below hb
            clear hb
            refine hKq.out _ _ ?_ (fun hHeld => ?_)
            · exact sc_of (Nat.le_refl _) K_8
            clear hKq Kq
            try simp only [Act.put, List.getElem_toArray, List.getElem_cons_zero, List.getElem_cons_succ, List.setIfInBounds_toArray, List.set_cons_zero, List.set_cons_succ]
            refine wpAnyH_ready (rs := [4]) (by kernel_rfl) (by simp) (AllReadyH.cons rfl (fun Kq hKq => ?_) (AllReadyH.nil))
            go_simp
            refine (impl_Do x _ (FT_8.out) HLL.out HXL.out).mono ?_
            rintro e q9 ⟨vo, rfl, ho, hb⟩
            rw [HCD.out]
            have hs9 := K_8.size
            obtain ⟨o1, o2, o3, rfl, h1, h2, h3, h4⟩ := ho
            obtain ⟨r1, t1, rfl, y1, y2⟩ := own_shape h1
            clear y1 y2
            obtain ⟨r2, t2, rfl, y1, y2⟩ := own_shape h2
            clear y1 y2
            obtain ⟨r3, t3, rfl, y1, y2⟩ := own_shape h3
            clear y1 y2
            have K_9 : Below u12.heap.size u12 q9 := bchain K_8 hb
            have Z_9 : Hid (BoxZ q9 q1.heap.size) := Z_8.out.below hb
            have FR_9 : Hid (DkOwn q9 u12.heap.size (.agg #[(Value.slice r1 ((sdD d x)).live.length t1), (Value.slice r2 ((sdD d x)).safe.length t2), (Value.slice r3 ((sdD d x)).ops.length t3)]) (sdD d x)) := ⟨_, _, _, rfl, own_mono h1 hs9, own_mono h2 hs9, own_mono h3 hs9, h4⟩
            clear hb h1 h2 h3
            refine hKq.out _ _ ?_ (fun hHeld => ?_)
            · exact sc_of (Nat.le_refl _) K_9
            clear hKq Kq
            try simp only [Act.put, List.getElem_toArray, List.getElem_cons_zero, List.getElem_cons_succ, List.setIfInBounds_toArray, List.set_cons_zero, List.set_cons_succ]
            refine wpAnyH_take (i := 5) (v := ?_) rfl (by kernel_rfl) (by kernel_rfl) (by kernel_rfl) (fun _ _ _ h => h) (Or.inl ⟨by rfl, ?_⟩) (by assumption) ?_
            rotate_left
            · (intro wq hSw; (try dsimp only at hSw); go_simp <;> with_reducible rfl)
            try simp only [Act.put, List.getElem_toArray, List.getElem_cons_zero, List.getElem_cons_succ, List.setIfInBounds_toArray, List.set_cons_zero, List.set_cons_succ]
            refine wpAnyH_take (i := 6) (v := ?_) rfl (by kernel_rfl) (by kernel_rfl) (by kernel_rfl) (fun _ _ _ h => h) (Or.inl ⟨by rfl, ?_⟩) (by assumption) ?_
            rotate_left
            · (intro wq hSw; (try dsimp only at hSw); go_simp <;> with_reducible rfl)
            try simp only [Act.put, List.getElem_toArray, List.getElem_cons_zero, List.getElem_cons_succ, List.setIfInBounds_toArray, List.set_cons_zero, List.set_cons_succ]
            refine wpAnyH_take (i := 7) (v := ?_) rfl (by kernel_rfl) (by kernel_rfl) (by kernel_rfl) (fun _ _ _ h => h) (Or.inl ⟨by rfl, ?_⟩) (by assumption) ?_
            rotate_left
            · (intro wq hSw; (try dsimp only at hSw); go_simp <;> with_reducible rfl)
            try simp only [Act.put, List.getElem_toArray, List.getElem_cons_zero, List.getElem_cons_succ, List.setIfInBounds_toArray, List.set_cons_zero, List.set_cons_succ]
            refine wpAnyH_ready (rs := [9]) (by kernel_rfl) (by simp) (AllReadyH.cons rfl (fun Kq hKq => ?_) (AllReadyH.nil))
            have z0 := Z_9.out.c0
            have z1 := Z_9.out.c1
            have z2 := Z_9.out.c2
            have zf := Z_9.out.nf
            have zl := Z_9.out.lt
            have EE : Hid (ImR u12 (q1.heap.size) (Value.slice r1 ((sdD d x)).live.length t1) (Value.slice r2 ((sdD d x)).safe.length t2) (Value.slice r3 ((sdD d x)).ops.length t3) (sdD d x) (((q9.setCell ⟨q1.heap.size, 0, none⟩ (Value.slice r1 ((sdD d x)).live.length t1)).setCell ⟨q1.heap.size, 1, none⟩ (Value.slice r2 ((sdD d x)).safe.length t2)).setCell ⟨q1.heap.size, 2, none⟩ (Value.slice r3 ((sdD d x)).ops.length t3))) := ImR.of Z_9.out FR_9.out K_9 lo
            go_simp
            refine hKq.out _ _ ?_ (fun hHeld => ?_)
            · exact sc_of (Nat.le_refl _) (bel_set3 K_9 lo)
            clear hKq Kq
            try simp only [Act.put, List.getElem_toArray, List.getElem_cons_zero, List.getElem_cons_succ, List.setIfInBounds_toArray, List.set_cons_zero, List.set_cons_succ]
            refine wpAnyH_take (i := 10) (v := ?_) rfl (by kernel_rfl) (by kernel_rfl) (by kernel_rfl) (fun _ _ _ h => h) (Or.inl ⟨by rfl, ?_⟩) (by assumption) ?_
            rotate_left
            · (intro wq hSw; (try dsimp only at hSw); go_simp <;> with_reducible rfl)
            try simp only [Act.put, List.getElem_toArray, List.getElem_cons_zero, List.getElem_cons_succ, List.setIfInBounds_toArray, List.set_cons_zero, List.set_cons_succ]
            refine wpAnyH_done (by kernel_rfl) ?_ _
            clear hHeld
            go_wp2_with fail
            go_meet
            exact ⟨_, _, _, _, rfl, rfl, EE.out⟩
        · go_simp
          obtain ⟨q10, HQ10⟩ : ∃ q, Hid ((u12.alloc (.cells #[.slice none 0 0, .slice none 0 0, .slice none 0 0] 27)).drew = q) := ⟨_, rfl⟩
          rw [HQ10.out]
          have hb : Below u12.drew.heap.size u12.drew q10 := by rw [← HQ10.out]; exact ⟨rfl, rfl, rfl, by simp, fun q hq => Below.heap_alloc u12 _ q hq⟩
          have Z_10 : Hid (BoxZ q10 u12.heap.size) := by rw [← HQ10.out]; exact BoxZ.at.drew
          have lo : u12.heap.size ≤ u12.drew.heap.size := KQ.size
          have K_10 : Below u12.heap.size u12 q10 := bchain KQ hb
          clear hb
          refine hKq.out _ _ ?_ (fun hHeld => ?_)
          · exact sc_of (Nat.le_refl _) K_10
          clear hKq Kq
          try simp only [Act.put, List.getElem_toArray, List.getElem_cons_zero, List.getElem_cons_succ, List.setIfInBounds_toArray, List.set_cons_zero, List.set_cons_succ]
          refine wpAnyH_ready (rs := [1]) (by kernel_rfl) (by simp) (AllReadyH.cons rfl (fun Kq hKq => ?_) (AllReadyH.nil))
          go_simp
          refine (laws_toDisk _ (HR.out.below (bchain K12.out K_10)) HLL.out).mono ?_
          rintro e q11 ⟨vt11, rfl, ho, hb⟩
          have K_11 : Below u12.heap.size u12 q11 := bchain K_10 hb
          have Z_11 : Hid (BoxZ q11 u12.heap.size) := Z_10.out.below hb
          have FT_11 : Hid (DkRow q11 vt11 d) := ho.row
          clear hb ho
          refine hKq.out _ _ ?_ (fun hHeld => ?_)
          · exact sc_of (Nat.le_refl _) K_11
          clear hKq Kq
          try simp only [Act.put, List.getElem_toArray, List.getElem_cons_zero, List.getElem_cons_succ, List.setIfInBounds_toArray, List.set_cons_zero, List.set_cons_succ]
          refine wpAnyH_ready (rs := [3]) (by kernel_rfl) (by simp) (AllReadyH.cons rfl (fun Kq hKq => ?_) (AllReadyH.nil))
          go_simp
          refine (laws_toDOp x _).mono ?_
          rintro e q12 ⟨rfl, hb⟩
          have K_12 : Below u12.heap.size u12 q12 := bchain K_11 hb
          have Z_12 : Hid (BoxZ q12 u12.heap.size) := Z_11.out.below hb
          have FT_12 : Hid (DkRow q12 vt11 d) := (FT_11.out).below hb
          clear hb
          refine hKq.out _ _ ?_ (fun hHeld => ?_)
          · exact sc_of (Nat.le_refl _) K_12
          clear hKq Kq
          try simp only [Act.put, List.getElem_toArray, List.getElem_cons_zero, List.getElem_cons_succ, List.setIfInBounds_toArray, List.set_cons_zero, List.set_cons_succ]
          refine wpAnyH_ready (rs := [4]) (by kernel_rfl) (by simp) (AllReadyH.cons rfl (fun Kq hKq => ?_) (AllReadyH.nil))
          go_simp
          refine (impl_Do x _ (FT_12.out) HLL.out HXL.out).mono ?_
          rintro e q13 ⟨vo, rfl, ho, hb⟩
          rw [HCD.out]
          have hs13 := K_12.size
          obtain ⟨o1, o2, o3, rfl, h1, h2, h3, h4⟩ := ho
          obtain ⟨r1, t1, rfl, y1, y2⟩ := own_shape h1
          clear y1 y2
          obtain ⟨r2, t2, rfl, y1, y2⟩ := own_shape h2
          clear y1 y2
          obtain ⟨r3, t3, rfl, y1, y2⟩ := own_shape h3
          clear y1 y2
          have K_13 : Below u12.heap.size u12 q13 := bchain K_12 hb
          have Z_13 : Hid (BoxZ q13 u12.heap.size) := Z_12.out.below hb
          have FR_13 : Hid (DkOwn q13 u12.heap.size (.agg #[(Value.slice r1 ((sdD d x)).live.length t1), (Value.slice r2 ((sdD d x)).safe.length t2), (Value.slice r3 ((sdD d x)).ops.length t3)]) (sdD d x)) := ⟨_, _, _, rfl, own_mono h1 hs13, own_mono h2 hs13, own_mono h3 hs13, h4⟩
          clear hb h1 h2 h3
          refine hKq.out _ _ ?_ (fun hHeld => ?_)
          · exact sc_of (Nat.le_refl _) K_13
          clear hKq Kq
          try simp only [Act.put, List.getElem_toArray, List.getElem_cons_zero, List.getElem_cons_succ, List.setIfInBounds_toArray, List.set_cons_zero, List.set_cons_succ]
          refine wpAnyH_take (i := 5) (v := ?_) rfl (by kernel_rfl) (by kernel_rfl) (by kernel_rfl) (fun _ _ _ h => h) (Or.inl ⟨by rfl, ?_⟩) (by assumption) ?_
          rotate_left
          · (intro wq hSw; (try dsimp only at hSw); go_simp <;> with_reducible rfl)
          try simp only [Act.put, List.getElem_toArray, List.getElem_cons_zero, List.getElem_cons_succ, List.setIfInBounds_toArray, List.set_cons_zero, List.set_cons_succ]
          refine wpAnyH_take (i := 6) (v := ?_) rfl (by kernel_rfl) (by kernel_rfl) (by kernel_rfl) (fun _ _ _ h => h) (Or.inl ⟨by rfl, ?_⟩) (by assumption) ?_
          rotate_left
          · (intro wq hSw; (try dsimp only at hSw); go_simp <;> with_reducible rfl)
          try simp only [Act.put, List.getElem_toArray, List.getElem_cons_zero, List.getElem_cons_succ, List.setIfInBounds_toArray, List.set_cons_zero, List.set_cons_succ]
          refine wpAnyH_take (i := 7) (v := ?_) rfl (by kernel_rfl) (by kernel_rfl) (by kernel_rfl) (fun _ _ _ h => h) (Or.inl ⟨by rfl, ?_⟩) (by assumption) ?_
          rotate_left
          · (intro wq hSw; (try dsimp only at hSw); go_simp <;> with_reducible rfl)
          try simp only [Act.put, List.getElem_toArray, List.getElem_cons_zero, List.getElem_cons_succ, List.setIfInBounds_toArray, List.set_cons_zero, List.set_cons_succ]
          refine wpAnyH_ready (rs := [9]) (by kernel_rfl) (by simp) (AllReadyH.cons rfl (fun Kq hKq => ?_) (AllReadyH.nil))
          have z0 := Z_13.out.c0
          have z1 := Z_13.out.c1
          have z2 := Z_13.out.c2
          have zf := Z_13.out.nf
          have zl := Z_13.out.lt
          have EE : Hid (ImR u12 (u12.heap.size) (Value.slice r1 ((sdD d x)).live.length t1) (Value.slice r2 ((sdD d x)).safe.length t2) (Value.slice r3 ((sdD d x)).ops.length t3) (sdD d x) (((q13.setCell ⟨u12.heap.size, 0, none⟩ (Value.slice r1 ((sdD d x)).live.length t1)).setCell ⟨u12.heap.size, 1, none⟩ (Value.slice r2 ((sdD d x)).safe.length t2)).setCell ⟨u12.heap.size, 2, none⟩ (Value.slice r3 ((sdD d x)).ops.length t3))) := ImR.of Z_13.out FR_13.out K_13 lo
          go_simp
          refine hKq.out _ _ ?_ (fun hHeld => ?_)
          · exact sc_of (Nat.le_refl _) (bel_set3 K_13 lo)
          clear hKq Kq
          try simp only [Act.put, List.getElem_toArray, List.getElem_cons_zero, List.getElem_cons_succ, List.setIfInBounds_toArray, List.set_cons_zero, List.set_cons_succ]
          refine wpAnyH_take (i := 10) (v := ?_) rfl (by kernel_rfl) (by kernel_rfl) (by kernel_rfl) (fun _ _ _ h => h) (Or.inl ⟨by rfl, ?_⟩) (by assumption) ?_
          rotate_left
          · (intro wq hSw; (try dsimp only at hSw); go_simp <;> with_reducible rfl)
          try simp only [Act.put, List.getElem_toArray, List.getElem_cons_zero, List.getElem_cons_succ, List.setIfInBounds_toArray, List.set_cons_zero, List.set_cons_succ]
          refine wpAnyH_done (by kernel_rfl) ?_ _
          clear hHeld
          go_wp2_with fail
          go_meet
          exact ⟨_, _, _, _, rfl, rfl, EE.out⟩
      case rest =>
        obtain ⟨gh, vh1, vh2, vh3, rfl, rfl, hR⟩ := hcut
        obtain ⟨h1, h2, h3, hc1, hc2, hc3, hn1, hn2, hn3, ee⟩ := hR.own.row.agg
        cases ee
        have hb := hR.bel
        replace a_0 := cy hb (b := w.heap.size) (o := 0) (x := .slice a1 an1 ac1) (by go_simp)
        replace a_1 := cy hb (b := w.heap.size) (o := 1) (x := .slice a2 an2 ac2) (by go_simp)
        replace a_2 := cy hb (b := w.heap.size) (o := 2) (x := .slice a3 an3 ac3) (by go_simp)
        replace b_0 := cy hb (b := w.heap.size + 1) (o := 0) (x := .int .i64 x.k) (by go_simp)
        replace b_1 := cy hb (b := w.heap.size + 1) (o := 1) (x := .string x.n) (by go_simp)
        replace b_2 := cy hb (b := w.heap.size + 1) (o := 2) (x := .string x.t) (by go_simp)
        replace b_3 := cy hb (b := w.heap.size + 1) (o := 3) (x := .string x.d) (by go_simp)
        replace o_0 := cy hb (b := go) (o := 0) (x := .slice o1 on1 oc1) (by go_simp)
        replace o_1 := cy hb (b := go) (o := 1) (x := .slice o2 on2 oc2) (by go_simp)
        replace o_2 := cy hb (b := go) (o := 2) (x := .slice o3 on3 oc3) (by go_simp)
        replace x_0 := cy hb (b := u4.heap.size) (o := 0) (x := .slice x1 xn1 xc1) (by go_simp)
        replace x_1 := cy hb (b := u4.heap.size) (o := 1) (x := .slice x2 xn2 xc2) (by go_simp)
        replace x_2 := cy hb (b := u4.heap.size) (o := 2) (x := .slice x3 xn3 xc3) (by go_simp)
        replace g_0 := cy hb (b := gg) (o := 0) (x := .slice g1 gn1 gc1) (by go_simp)
        replace g_1 := cy hb (b := gg) (o := 1) (x := .slice g2 gn2 gc2) (by go_simp)
        replace g_2 := cy hb (b := gg) (o := 2) (x := .slice g3 gn3 gc3) (by go_simp)
        have h_0 := hR.c0
        have h_1 := hR.c1
        have h_2 := hR.c2
        have H13 : Hid (DkRow wc (.agg #[.slice h1 hn1 hc1, .slice h2 hn2 hc2, .slice h3 hn3 hc3]) (sdD d x)) := hR.own.row
        have M13 : Hid (DkOwn wc u5.heap.size (.agg #[.slice g1 gn1 gc1, .slice g2 gn2 gc2, .slice g3 gn3 gc3]) (dkMk 1 m1 m2 m3)) := M12.out.below hb
        have K13 : Hid (Below w.heap.size w wc) := bchain K12.out hb
        have O13 : Hid (Below v3w.heap.size v3w wc) := bchain O12.out hb
        have s13h : gh < wc.heap.size := hR.hi
        clear hb hR M12
        have s13a : w.heap.size < wc.heap.size := World.block_lt_of_cell? wc ⟨w.heap.size, 0, none⟩ a_0
        have s13b : w.heap.size + 1 < wc.heap.size := World.block_lt_of_cell? wc ⟨w.heap.size + 1, 0, none⟩ b_0
        have s13o : go < wc.heap.size := World.block_lt_of_cell? wc ⟨go, 0, none⟩ o_0
        have s13x : u4.heap.size < wc.heap.size := World.block_lt_of_cell? wc ⟨u4.heap.size, 0, none⟩ x_0
        have s13g : gg < wc.heap.size := World.block_lt_of_cell? wc ⟨gg, 0, none⟩ g_0
        go_wp2_with fail
        refine (laws_eqDisk _ H13.out (O3.out.below O13.out)).mono ?_
        rintro e u14 ⟨rfl, hb⟩
        replace a_0 := cy hb (b := w.heap.size) (o := 0) (x := .slice a1 an1 ac1) (by go_simp)
        replace a_1 := cy hb (b := w.heap.size) (o := 1) (x := .slice a2 an2 ac2) (by go_simp)
        replace a_2 := cy hb (b := w.heap.size) (o := 2) (x := .slice a3 an3 ac3) (by go_simp)
        replace b_0 := cy hb (b := w.heap.size + 1) (o := 0) (x := .int .i64 x.k) (by go_simp)
        replace b_1 := cy hb (b := w.heap.size + 1) (o := 1) (x := .string x.n) (by go_simp)
        replace b_2 := cy hb (b := w.heap.size + 1) (o := 2) (x := .string x.t) (by go_simp)
        replace b_3 := cy hb (b := w.heap.size + 1) (o := 3) (x := .string x.d) (by go_simp)
        replace o_0 := cy hb (b := go) (o := 0) (x := .slice o1 on1 oc1) (by go_simp)
        replace o_1 := cy hb (b := go) (o := 1) (x := .slice o2 on2 oc2) (by go_simp)
        replace o_2 := cy hb (b := go) (o := 2) (x := .slice o3 on3 oc3) (by go_simp)
        replace x_0 := cy hb (b := u4.heap.size) (o := 0) (x := .slice x1 xn1 xc1) (by go_simp)
        replace x_1 := cy hb (b := u4.heap.size) (o := 1) (x := .slice x2 xn2 xc2) (by go_simp)
        replace x_2 := cy hb (b := u4.heap.size) (o := 2) (x := .slice x3 xn3 xc3) (by go_simp)
        replace g_0 := cy hb (b := gg) (o := 0) (x := .slice g1 gn1 gc1) (by go_simp)
        replace g_1 := cy hb (b := gg) (o := 1) (x := .slice g2 gn2 gc2) (by go_simp)
        replace g_2 := cy hb (b := gg) (o := 2) (x := .slice g3 gn3 gc3) (by go_simp)
        replace h_0 := cy hb (b := gh) (o := 0) (x := .slice h1 hn1 hc1) (by go_simp)
        replace h_1 := cy hb (b := gh) (o := 1) (x := .slice h2 hn2 hc2) (by go_simp)
        replace h_2 := cy hb (b := gh) (o := 2) (x := .slice h3 hn3 hc3) (by go_simp)
        have M14 : Hid (DkOwn u14 u5.heap.size (.agg #[.slice g1 gn1 gc1, .slice g2 gn2 gc2, .slice g3 gn3 gc3]) (dkMk 1 m1 m2 m3)) := M13.out.below hb
        have K14 : Hid (Below w.heap.size w u14) := bchain K13.out hb
        clear hb M13
        go_wp2_with fail
        refine (laws_heldDisk _ M14.out.row hm123.1 hm123.2.1 hm123.2.2).mono ?_
        rintro e u15 ⟨rfl, hb⟩
        have K15 : Hid (Below w.heap.size w u15) := bchain K14.out hb
        clear hb
        rw [HMM.out]
        go_wp2_with fail
        go_ret
        exact ⟨rfl, K15.out⟩
end Go.Proofs.Ytanjlpgdmnapdaa
