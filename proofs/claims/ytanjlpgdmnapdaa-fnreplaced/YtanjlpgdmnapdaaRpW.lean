import Derived.Test.YtanjlpgdmnapdaaRpM
namespace Go.Proofs.Ytanjlpgdmnapdaa
open Go.RowKit Go.Maps
set_option linter.unusedSimpArgs false
set_option linter.unusedVariables false

theorem impl_doW {B b m : Nat} {L : List FI} (x : DP) (w : World) (h : FoldL w B b m L) (hB : B ≤ w.heap.size) (hok : dpOk x) (hx : x.d.size ≤ 1048576) (hm : m < 1073741823) (hT : totL L ≤ 1099510000000) :
    Calls Try.prog 43 #[.map (some b), .agg #[.int .i64 x.k, .string x.n, .string x.t, .string x.d]] w fun e w' => e = .returned (.int .i64 (doC x L)) ∧ FoldL w' B b (m + 1) (doG x L) ∧ Below B w w' := by
  obtain ⟨k, n, t, d⟩ := x
  by_cases h1 : k = 1
  · subst h1; exact impl_do_1 n t d w h hB hok.1 hok.2.1 hx hm hT
  by_cases h2 : k = 2
  · subst h2; exact impl_do_2 n t d w h hB hok.1 hok.2.1 hx hm hT
  by_cases h3 : k = 3
  · subst h3; exact impl_do_3 n t d w h hB hok.1 hok.2.1 hx hm hT
  have HE : Hid (formB ⟨k, n, t, d⟩ = false) := by
    show _ = _
    simp only [formB, h1, h2, h3, if_false]
  have HC : Hid (doC ⟨k, n, t, d⟩ L = 2) := by show _ = _; rw [doC, if_pos HE.out]
  have HG : Hid (doG ⟨k, n, t, d⟩ L = L) := by show _ = _; rw [doG, if_neg (by rw [HE.out]; simp)]
  have HF : Hid (FoldL w B b m L) := h
  have HN : Hid (n.size ≤ maxLen) := hok.1
  have H123 : Hid (¬ k = 1 ∧ ¬ k = 2 ∧ ¬ k = 3) := ⟨h1, h2, h3⟩
  rw [HC.out, HG.out]
  clear h hx hok hT h1 h2 h3
  show Calls Try.prog 43 #[.map (some b), .agg #[.int .i64 k, .string n, .string t, .string d]] w _
  go_enter Try.func43, Try.ntmps43
  go_wp2_with (first
    | (go_at_call 51; refine (fileOpOf_0 k n t d _ HN.out H123.out.1 H123.out.2.1 H123.out.2.2).mono ?_; rintro e w1 ⟨rfl, hb⟩; have HB1 : Hid (Below w.heap.size w w1) := (Below.trans (by go_grown) (hb.mono (by simp))); clear hb))
  go_ret
  exact ⟨rfl, (HF.out.below HB1.out).more, below_up hB HB1.out⟩
set_option maxRecDepth 100000 in
set_option maxHeartbeats 8000000 in
theorem impl_Do_noW {v : Value} {d : DK} (x : DP) (w : World) (h : DkRow w v d) (hl : DkLil d) (hx : dpOk x ∧ x.d.size ≤ 1048576) (hd : diskB d = false) :
    Calls Try.prog 20 #[v, .agg #[.int .i64 x.k, .string x.n, .string x.t, .string x.d]] w fun e w' => ∃ v', e = .returned (.tuple #[v', .int .i64 (sdK d x)]) ∧ DkOwn w' w.heap.size v' (sdD d x) ∧ Below w.heap.size w w' := by
  have HR : Hid (DkRow w v d) := h
  have HL : Hid (DkLil d) := hl
  have HX : Hid (dpOk x ∧ x.d.size ≤ 1048576) := hx
  have HRR : Hid (diskB d = false) := hd
  obtain ⟨A1, c1, A2, c2, A3, c3, rfl, r1, r2, r3, z1, z2, z3⟩ := h
  obtain ⟨n1, HN1⟩ : ∃ n1, Hid (d.live.length = n1) := ⟨_, rfl⟩
  obtain ⟨n2, HN2⟩ : ∃ n2, Hid (d.safe.length = n2) := ⟨_, rfl⟩
  obtain ⟨n3, HN3⟩ : ∃ n3, Hid (d.ops.length = n3) := ⟨_, rfl⟩
  rw [HN1.out, HN2.out, HN3.out] at HR ⊢
  clear r1 r2 r3 z1 z2 z3 hl hx hd
  have HE : Hid (sdD d x = dk0) := by show _ = _; rw [sdD, HRR.out]; rfl
  have HK : Hid (sdK d x = 1) := by show _ = _; rw [sdK, HRR.out]; rfl
  rw [HE.out, HK.out]
  go_enter Try.func20, Try.ntmps20
  go_wp2_with fail
  refine (impl_DiskOk _ (HR.out.below (by go_grown)) HL.out).mono ?_
  rintro e w1 ⟨rfl, hb⟩
  rw [HRR.out]
  have p0 := cy hb (b := w.heap.size + 1 + 1) (o := 0) (x := .slice none 0 0) (by go_simp)
  have p1 := cy hb (b := w.heap.size + 1 + 1) (o := 1) (x := .slice none 0 0) (by go_simp)
  have p2 := cy hb (b := w.heap.size + 1 + 1) (o := 2) (x := .slice none 0 0) (by go_simp)
  have pf : ∀ o, w1.frozen? ⟨w.heap.size + 1 + 1, o, none⟩ = false := fun o => by
    rw [hb.frozen (p := ⟨w.heap.size + 1 + 1, o, none⟩) (by simp)]
    go_simp
  have HB1 : Hid (Below w.heap.size w w1) := Below.trans (by go_grown) (hb.mono (by simp; omega))
  have hz1 : w.heap.size + 1 + 1 < w1.heap.size := World.block_lt_of_cell? w1 ⟨w.heap.size + 1 + 1, 0, none⟩ p0
  clear hb
  go_wp2_with fail
  refine bodyPost_ret (v := .tuple #[.agg #[.slice none 0 0, .slice none 0 0, .slice none 0 0], .int .i64 1]) ?_ rfl ⟨_, rfl, own_dk0, ?_⟩
  · simp (maxDischargeDepth := 9) [results, Try.results20, go_sem, *]
  · exact ((HB1.out.setCell (by show w.heap.size ≤ w.heap.size + 1 + 1; omega) _).setCell (by show w.heap.size ≤ w.heap.size + 1 + 1; omega) _).setCell (by show w.heap.size ≤ w.heap.size + 1 + 1; omega) _
set_option maxRecDepth 100000 in
set_option maxHeartbeats 8000000 in
theorem impl_Do_errW {v : Value} {d : DK} (x : DP) (w : World) (h : DkRow w v d) (hl : DkLil d) (hx : dpOk x ∧ x.d.size ≤ 1048576) (hd : diskB d = true) (h0 : doK d x ≠ 0) :
    Calls Try.prog 20 #[v, .agg #[.int .i64 x.k, .string x.n, .string x.t, .string x.d]] w fun e w' => ∃ v', e = .returned (.tuple #[v', .int .i64 (sdK d x)]) ∧ DkOwn w' w.heap.size v' (sdD d x) ∧ Below w.heap.size w w' := by
  have HR : Hid (DkRow w v d) := h
  have HL : Hid (DkLil d) := hl
  have HX : Hid (dpOk x ∧ x.d.size ≤ 1048576) := hx
  have HRR : Hid (diskB d = true) := hd
  obtain ⟨A1, c1, A2, c2, A3, c3, rfl, r1, r2, r3, z1, z2, z3⟩ := h
  obtain ⟨n1, HN1⟩ : ∃ n1, Hid (d.live.length = n1) := ⟨_, rfl⟩
  obtain ⟨n2, HN2⟩ : ∃ n2, Hid (d.safe.length = n2) := ⟨_, rfl⟩
  obtain ⟨n3, HN3⟩ : ∃ n3, Hid (d.ops.length = n3) := ⟨_, rfl⟩
  rw [HN1.out, HN2.out, HN3.out] at HR ⊢
  have HR1 : Hid (FiRow w A1 d.live) := r1
  clear r1 r2 r3 z1 z2 z3 hl hx hd
  have HE : Hid (sdD d x = d) := by show _ = _; rw [sdD, HRR.out, acD_no h0]; rfl
  have HK : Hid (sdK d x = doK d x) := by show _ = _; rw [sdK, HRR.out]; rfl
  have H0 : Hid (doK d x ≠ 0) := h0
  rw [HE.out, HK.out]
  obtain ⟨q1, q2, q3⟩ := disk_parts HRR.out
  obtain ⟨l60, lup, lnm, ltt⟩ := files_parts q1
  have HFL : Hid (filesB d.live = true) := q1
  have HUP : Hid (Up fiK d.live) := lup
  have HNM : Hid (∀ y ∈ d.live, nameB y.n = true) := lnm
  have HTL : Hid (totL d.live ≤ 200000) := ltt
  have HFK : Hid (∀ y ∈ d.live, fiOk y) := fun y hy => fiOk_of (HL.out.l1 y hy)
  rw [HN1.out] at l60
  rw [HN3.out] at q3
  clear q1 q2 lup lnm ltt h0
  go_enter Try.func20, Try.ntmps20
  go_wp2_with fail
  refine (impl_DiskOk _ (HR.out.below (by go_grown)) HL.out).mono ?_
  rintro e w1 ⟨rfl, hb⟩
  rw [HRR.out]
  have p0 := cy hb (b := w.heap.size + 1 + 1) (o := 0) (x := .slice none 0 0) (by go_simp)
  have hz1 : w.heap.size + 1 + 1 < w1.heap.size := World.block_lt_of_cell? w1 ⟨w.heap.size + 1 + 1, 0, none⟩ p0
  have k0 := cy hb (b := w.heap.size) (o := 0) (x := .slice A1 n1 c1) (by go_simp)
  have k1 := cy hb (b := w.heap.size) (o := 1) (x := .slice A2 n2 c2) (by go_simp)
  have k2 := cy hb (b := w.heap.size) (o := 2) (x := .slice A3 n3 c3) (by go_simp)
  have x0 := cy hb (b := w.heap.size + 1) (o := 0) (x := .int .i64 x.k) (by go_simp)
  have x1 := cy hb (b := w.heap.size + 1) (o := 1) (x := .string x.n) (by go_simp)
  have x2 := cy hb (b := w.heap.size + 1) (o := 2) (x := .string x.t) (by go_simp)
  have x3 := cy hb (b := w.heap.size + 1) (o := 3) (x := .string x.d) (by go_simp)
  have p1 := cy hb (b := w.heap.size + 1 + 1) (o := 1) (x := .slice none 0 0) (by go_simp)
  have p2 := cy hb (b := w.heap.size + 1 + 1) (o := 2) (x := .slice none 0 0) (by go_simp)
  have pf : ∀ o, w1.frozen? ⟨w.heap.size + 1 + 1, o, none⟩ = false := fun o => by
    rw [hb.frozen (p := ⟨w.heap.size + 1 + 1, o, none⟩) (by simp)]
    go_simp
  have HB1 : Hid (Below w.heap.size w w1) := Below.trans (by go_grown) (hb.mono (by simp; omega))
  clear hb
  have hl0 : w.heap.size < w1.heap.size := by omega
  have hl1 : w.heap.size + 1 < w1.heap.size := by omega
  go_wp2_with fail
  refine (impl_folderOf _ (HR1.out.below HB1.out) HN1.out HUP.out (by omega) HFK.out (Nat.le_trans HTL.out (by omega))).mono ?_
  rintro e w2 ⟨rfl, hF, hb⟩
  have HF : Hid (FoldL w2 w1.heap.size w1.heap.size n1 d.live) := hF
  have s2 := hb.size
  replace k0 := cyB hb (by omega) k0
  replace k1 := cyB hb (by omega) k1
  replace k2 := cyB hb (by omega) k2
  replace x0 := cyB hb (by omega) x0
  replace x1 := cyB hb (by omega) x1
  replace x2 := cyB hb (by omega) x2
  replace x3 := cyB hb (by omega) x3
  replace p0 := cyB hb (by omega) p0
  replace p1 := cyB hb (by omega) p1
  replace p2 := cyB hb (by omega) p2
  replace pf : ∀ o, w2.frozen? ⟨w.heap.size + 1 + 1, o, none⟩ = false := fun o => by
    rw [hb.frozen (p := ⟨w.heap.size + 1 + 1, o, none⟩) (by show w.heap.size + 1 + 1 < _; omega)]
    exact pf o
  have HB2 : Hid (Below w.heap.size w w2) := bchain HB1.out hb
  have hm0 : w.heap.size < w2.heap.size := by omega
  have hm1 : w.heap.size + 1 < w2.heap.size := by omega
  have hm2 : w.heap.size + 1 + 1 < w2.heap.size := by omega
  clear hF hb hl0 hl1
  go_wp2_with fail
  refine (impl_doW x _ HF.out (by omega) HX.out.1 HX.out.2 (by omega) (Nat.le_trans HTL.out (by omega))).mono ?_
  rintro e w3 ⟨rfl, hF, hb⟩
  have s3 := hb.size
  replace k0 := cyB hb (by omega) k0
  replace k1 := cyB hb (by omega) k1
  replace k2 := cyB hb (by omega) k2
  replace x0 := cyB hb (by omega) x0
  replace x1 := cyB hb (by omega) x1
  replace x2 := cyB hb (by omega) x2
  replace x3 := cyB hb (by omega) x3
  replace p0 := cyB hb (by omega) p0
  replace p1 := cyB hb (by omega) p1
  replace p2 := cyB hb (by omega) p2
  replace pf : ∀ o, w3.frozen? ⟨w.heap.size + 1 + 1, o, none⟩ = false := fun o => by
    rw [hb.frozen (p := ⟨w.heap.size + 1 + 1, o, none⟩) (by show w.heap.size + 1 + 1 < _; omega)]
    exact pf o
  have HB3 : Hid (Below w.heap.size w w3) := Below.trans HB2.out (hb.mono (by omega))
  have hk0 : w.heap.size < w3.heap.size := by omega
  have hk1 : w.heap.size + 1 < w3.heap.size := by omega
  have hk2 : w.heap.size + 1 + 1 < w3.heap.size := by omega
  clear hF hb hm0 hm1 hm2
  obtain ⟨cc, HC⟩ : ∃ cc, Hid (doC x d.live = cc) := ⟨_, rfl⟩
  rw [HC.out]
  by_cases e0 : cc = 0
  · subst e0
    have h200 : 200 ≤ n3 := Nat.le_of_not_lt fun h9 => H0.out (by rw [doK, HC.out, HN3.out, if_neg (by omega)])
    have HQ : Hid (doK d x = 4) := by show _ = _; rw [doK, HC.out, HN3.out, if_pos ⟨rfl, h200⟩]
    have h201 : (200 : Int) ≤ (n3 : Int) := by omega
    go_wp2_with fail
    refine (impl_copied _ (HR.out.below HB3.out) HL.out).mono ?_
    rintro e w4 ⟨vv, rfl, ⟨v1, v2, v3, rfl, o1, o2, o3, oa⟩, hb⟩
    replace p0 := cyB hb (by omega) p0
    replace p1 := cyB hb (by omega) p1
    replace p2 := cyB hb (by omega) p2
    replace pf : ∀ o, w4.frozen? ⟨w.heap.size + 1 + 1, o, none⟩ = false := fun o => by
      rw [hb.frozen (p := ⟨w.heap.size + 1 + 1, o, none⟩) (by show w.heap.size + 1 + 1 < _; omega)]
      exact pf o
    have s4 := hb.size
    have m4 : w.heap.size + 1 + 1 < w4.heap.size := by omega
    have BB : Hid (Below w.heap.size w w4) := bchain HB3.out hb
    have HH : Hid (DkOwn w4 w3.heap.size (.agg #[v1, v2, v3]) d) := ⟨_, _, _, rfl, o1, o2, o3, oa⟩
    obtain ⟨D1, b1, rfl, y1, y2⟩ := own_shape o1
    obtain ⟨D2, b2, rfl, y3, y4⟩ := own_shape o2
    obtain ⟨D3, b3, rfl, y5, y6⟩ := own_shape o3
    clear hb o1 o2 o3 oa y1 y2 y3 y4 y5 y6 k0 k1 k2 x0 x1 x2 x3
    go_wp2_with fail
    refine bodyPost_ret (v := .tuple #[.agg #[.slice D1 d.live.length b1, .slice D2 d.safe.length b2, .slice D3 d.ops.length b3], .int .i64 4]) ?_ rfl ⟨_, by rw [HQ.out], ?_, ?_⟩
    · simp (maxDischargeDepth := 9) [results, Try.results20, go_sem, *]
    · exact ((((HH.out.setJ (by omega) _ _).setJ (by omega) _ _).setJ (by omega) _ _).allocJ _).monoJ (by omega)
    · exact below_sa BB.out (by omega) _ _ _ _
  · have e1 : (cc == 0) = false := by simpa using e0
    have HQ : Hid (doK d x = cc) := by show _ = _; rw [doK, HC.out, if_neg (by omega)]
    go_wp2_with fail
    refine (impl_copied _ (HR.out.below HB3.out) HL.out).mono ?_
    rintro e w4 ⟨vv, rfl, ⟨v1, v2, v3, rfl, o1, o2, o3, oa⟩, hb⟩
    replace p0 := cyB hb (by omega) p0
    replace p1 := cyB hb (by omega) p1
    replace p2 := cyB hb (by omega) p2
    replace pf : ∀ o, w4.frozen? ⟨w.heap.size + 1 + 1, o, none⟩ = false := fun o => by
      rw [hb.frozen (p := ⟨w.heap.size + 1 + 1, o, none⟩) (by show w.heap.size + 1 + 1 < _; omega)]
      exact pf o
    have s4 := hb.size
    have m4 : w.heap.size + 1 + 1 < w4.heap.size := by omega
    have BB : Hid (Below w.heap.size w w4) := bchain HB3.out hb
    have HH : Hid (DkOwn w4 w3.heap.size (.agg #[v1, v2, v3]) d) := ⟨_, _, _, rfl, o1, o2, o3, oa⟩
    obtain ⟨D1, b1, rfl, y1, y2⟩ := own_shape o1
    obtain ⟨D2, b2, rfl, y3, y4⟩ := own_shape o2
    obtain ⟨D3, b3, rfl, y5, y6⟩ := own_shape o3
    clear hb o1 o2 o3 oa y1 y2 y3 y4 y5 y6 k0 k1 k2 x0 x1 x2 x3
    go_wp2_with fail
    refine bodyPost_ret (v := .tuple #[.agg #[.slice D1 d.live.length b1, .slice D2 d.safe.length b2, .slice D3 d.ops.length b3], .int .i64 cc]) ?_ rfl ⟨_, by rw [HQ.out], ?_, ?_⟩
    · simp (maxDischargeDepth := 9) [results, Try.results20, go_sem, *]
    · exact ((((HH.out.setJ (by omega) _ _).setJ (by omega) _ _).setJ (by omega) _ _).allocJ _).monoJ (by omega)
    · exact below_sa BB.out (by omega) _ _ _ _
theorem form_lil {x : DP} (h : formB x = true) (hd : x.d.size ≤ 1048576) : dpLil x := by
  obtain ⟨h1, h2⟩ := form_name h
  have g1 : x.n.size ≤ 100 := (of_decide_eq_true h1).2
  have no0 : ∀ s : ByteArray, noB s = true → s.size ≤ 100 := fun s hs => by
    have e : s.toList = [] := by simpa [noB] using hs
    rw [ByteArray.toList_eq] at e
    have e2 := congrArg List.length e
    have e3 : s.data.toList.length = s.size := by rw [Array.length_toList]; rfl
    rw [e3] at e2
    simp only [List.length_nil] at e2
    omega
  have g2 : x.t.size ≤ 100 := by
    unfold formB at h
    split at h
    · simp only [Bool.and_eq_true] at h; exact no0 _ h.2
    · split at h
      · rename_i h2'; exact (of_decide_eq_true (h2 h2')).2
      · split at h
        · simp only [Bool.and_eq_true] at h; exact no0 _ h.2.1
        · cases h
  exact ⟨by omega, by omega, hd⟩
theorem doK_form_of {d : DK} {x : DP} (h : doK d x = 0) : formB x = true := (doC_zero (doK_zero h).1).1
theorem impl_DoW {v : Value} {d : DK} (x : DP) (w : World) (h : DkRow w v d) (hl : DkLil d) (hx : dpOk x) (hxd : x.d.size ≤ 1048576) :
    Calls Try.prog 20 #[v, .agg #[.int .i64 x.k, .string x.n, .string x.t, .string x.d]] w fun e w' => ∃ v', e = .returned (.tuple #[v', .int .i64 (sdK d x)]) ∧ DkOwn w' w.heap.size v' (sdD d x) ∧ Below w.heap.size w w' := by
  cases hd : diskB d with
  | false => exact impl_Do_noW x w h hl ⟨hx, hxd⟩ hd
  | true =>
    by_cases h0 : doK d x = 0
    · exact impl_Do_done x w h hl (form_lil (doK_form_of h0) hxd) hd h0
    · exact impl_Do_errW x w h hl ⟨hx, hxd⟩ hd h0
set_option maxRecDepth 100000 in
set_option maxHeartbeats 8000000 in
theorem spec_l13Act_form {v : Value} {d : DK} (x : DP) (w : World) (h : DkRow w v d) (hl : DkLil d) (hx : dpOk x) (hf : formB x = false) (hd : diskB d = true) :
    Calls Try.prog 58 #[v, .agg #[.int .i64 x.k, .string x.n, .string x.t, .string x.d]] w fun e w' => ∃ v', e = .returned (.tuple #[v', .int .i64 (doK d x)]) ∧ DkHas w' w.heap.size v' (acD d x) ∧ Below w.heap.size w w' := by
  have HR : Hid (DkRow w v d) := h
  have HL : Hid (DkLil d) := hl
  have HX : Hid (dpOk x) := hx
  obtain ⟨q1, q2, q3⟩ := disk_parts hd
  obtain ⟨l60, lup, lnm, ltt⟩ := files_parts q1
  have HFL : Hid (filesB d.live = true) := q1
  have HUP : Hid (Up fiK d.live) := lup
  have HNM : Hid (∀ y ∈ d.live, nameB y.n = true) := lnm
  have HTL : Hid (totL d.live ≤ 200000) := ltt
  obtain ⟨A1, c1, A2, c2, A3, c3, rfl, r1, r2, r3, z1, z2, z3⟩ := h
  have HR1 : Hid (FiRow w A1 d.live) := r1
  have HZ1 : Hid (A1 = none → c1 = 0) := z1
  obtain ⟨n1, HN1⟩ : ∃ n1, Hid (d.live.length = n1) := ⟨_, rfl⟩
  obtain ⟨n2, HN2⟩ : ∃ n2, Hid (d.safe.length = n2) := ⟨_, rfl⟩
  obtain ⟨n3, HN3⟩ : ∃ n3, Hid (d.ops.length = n3) := ⟨_, rfl⟩
  rw [HN1.out] at l60
  rw [HN3.out] at q3
  rw [HN1.out, HN2.out, HN3.out] at HR ⊢
  clear r1 r2 r3 z1 z2 z3 hl hx hd q1 lup lnm ltt
  have HFO : Hid (formB x = false) := hf
  go_enter Try.func58, Try.ntmps58
  go_wp2_with fail
  refine (spec_l13Form x _ HX.out).mono ?_
  rintro e w1 ⟨rfl, hb⟩
  have k0 := cy hb (b := w.heap.size) (o := 0) (x := .slice A1 n1 c1) (by go_simp)
  have k1 := cy hb (b := w.heap.size) (o := 1) (x := .slice A2 n2 c2) (by go_simp)
  have k2 := cy hb (b := w.heap.size) (o := 2) (x := .slice A3 n3 c3) (by go_simp)
  have x0 := cy hb (b := w.heap.size + 1) (o := 0) (x := .int .i64 x.k) (by go_simp)
  have x1 := cy hb (b := w.heap.size + 1) (o := 1) (x := .string x.n) (by go_simp)
  have x2 := cy hb (b := w.heap.size + 1) (o := 2) (x := .string x.t) (by go_simp)
  have x3 := cy hb (b := w.heap.size + 1) (o := 3) (x := .string x.d) (by go_simp)
  have p0 := cy hb (b := w.heap.size + 1 + 1) (o := 0) (x := .slice none 0 0) (by go_simp)
  have p1 := cy hb (b := w.heap.size + 1 + 1) (o := 1) (x := .slice none 0 0) (by go_simp)
  have p2 := cy hb (b := w.heap.size + 1 + 1) (o := 2) (x := .slice none 0 0) (by go_simp)
  have pf : ∀ o, w1.frozen? ⟨w.heap.size + 1 + 1, o, none⟩ = false := fun o => by
    rw [hb.frozen (p := ⟨w.heap.size + 1 + 1, o, none⟩) (by simp)]
    go_simp
  have B1 : Hid (Below w.heap.size w w1) := Below.trans (by go_grown) (hb.mono (by simp; omega))
  have s1 : w.heap.size + 3 ≤ w1.heap.size := by simpa using hb.size
  clear hb
  rw [HFO.out]
  have HK : Hid (doK d x = 2) := doK_form HFO.out
  have HA : Hid (acD d x = d) := acD_no (by rw [HK.out]; decide)
  go_wp2_with fail
  refine (spec_l13Copy _ (HR.out.below B1.out) HL.out).mono ?_
  rintro e w2 ⟨v1, v2, v3, rfl, ⟨o1, o2, o3⟩, hb⟩
  replace p0 := cy hb p0
  replace p1 := cy hb p1
  replace p2 := cy hb p2
  replace pf : ∀ o, w2.frozen? ⟨w.heap.size + 1 + 1, o, none⟩ = false := fun o => by
    rw [hb.frozen (p := ⟨w.heap.size + 1 + 1, o, none⟩) (by show w.heap.size + 1 + 1 < w1.heap.size; omega)]
    exact pf o
  have m_w2 : w.heap.size + 1 + 1 < w2.heap.size := World.block_lt_of_cell? w2 ⟨w.heap.size + 1 + 1, 0, none⟩ p0
  obtain ⟨D1, b1, rfl, y1, y2⟩ := own_shape o1
  obtain ⟨D2, b2, rfl, y3, y4⟩ := own_shape o2
  obtain ⟨D3, b3, rfl, y5, y6⟩ := own_shape o3
  have HH : Hid (DkHas w2 (w.heap.size + 3) (.agg #[.slice D1 d.live.length b1, .slice D2 d.safe.length b2, .slice D3 d.ops.length b3]) d) := ⟨_, _, _, rfl, own_mono o1 (by omega), own_mono o2 (by omega), own_mono o3 (by omega)⟩
  have BB : Hid (Below w.heap.size w w2) := bchain B1.out hb
  clear hb o1 o2 o3 y1 y2 y3 y4 y5 y6
  go_wp2_with fail
  refine bodyPost_ret (v := .tuple #[.agg #[.slice D1 d.live.length b1, .slice D2 d.safe.length b2, .slice D3 d.ops.length b3], .int .i64 2]) ?_ rfl ⟨_, by rw [HK.out], ?_, ?_⟩
  · simp (maxDischargeDepth := 9) [results, Try.results58, go_sem, *]
  · rw [HA.out]; exact (((HH.out.set (by omega) _ _).set (by omega) _ _).set (by omega) _ _).mono (by omega)
  · exact ((BB.out.setCell (by show w.heap.size ≤ w.heap.size + 1 + 1; omega) _).setCell (by show w.heap.size ≤ w.heap.size + 1 + 1; omega) _).setCell (by show w.heap.size ≤ w.heap.size + 1 + 1; omega) _

theorem spec_l13ActW {v : Value} {d : DK} (x : DP) (w : World) (h : DkRow w v d) (hl : DkLil d) (hx : dpOk x) (hxd : x.d.size ≤ 1048576) (hd : diskB d = true) :
    Calls Try.prog 58 #[v, .agg #[.int .i64 x.k, .string x.n, .string x.t, .string x.d]] w fun e w' => ∃ v', e = .returned (.tuple #[v', .int .i64 (doK d x)]) ∧ DkHas w' w.heap.size v' (acD d x) ∧ Below w.heap.size w w' := by
  cases hf : formB x with
  | false => exact spec_l13Act_form x w h hl hx hf hd
  | true => exact spec_l13Act x w h hl (form_lil hf hxd) hd
end Go.Proofs.Ytanjlpgdmnapdaa
