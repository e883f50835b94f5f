import Derived.Test.YtjcicndioddcmaaDoorPlaceK
import Derived.Test.YtjcicndioddcmaaDoorPlaceR
import Derived.Test.YtjcicndioddcmaaDoorDrawU
namespace Go.Proofs.YtjcicndioddcmaaDoor
open Go.RowKit
set_option linter.unusedVariables false
set_option linter.unusedSimpArgs false

theorem col_some {n : Int} (h : 1 ≤ n ∧ n ≤ 52) : (colT n == (⟨#[]⟩ : ByteArray)) = false := by
  by_cases h2 : n ≤ 26
  · rw [colT_one h.1 h2]; rfl
  · rw [colT_two (by omega) h.2]; rfl
theorem col_ne {n : Int} (h : 1 ≤ n ∧ n ≤ 52) : ¬ colT n = (⟨#[]⟩ : ByteArray) := fun e => by
  have hne := (col_letters n h.1 h.2).2
  rw [e] at hne
  exact hne rfl
theorem read_empty : plV (rpC ⟨#[]⟩) (l1I (rp3 ⟨#[]⟩)) (hasD ⟨#[]⟩) (hasD (rp2 ⟨#[]⟩)) = .tuple #[.agg #[.int .i64 0, .int .i64 0, .bool false, .bool false], .bool false] := by
  show plV _ _ _ _ = _
  rfl
/-- A place's text, read: it comes back where it is right. -/
theorem read_back (a b : Int) (x y : Bool) : plV (rpC (plT a b x y)) (rdec (rp3 (plT a b x y)).data.toList) (hasD (plT a b x y)) (hasD (rp2 (plT a b x y))) =
    .tuple #[.agg #[.int .i64 (sl (refOkB a b) a), .int .i64 (sl (refOkB a b) b), .bool (refOkB a b && x), .bool (refOkB a b && y)], .bool (refOkB a b)] := by
  rw [pl_same]
  cases h : refOkB a b
  · have ep : plT a b x y = ⟨#[]⟩ := by unfold plT; rw [h]; rfl
    rw [ep, read_empty]
    rfl
  · obtain ⟨hc, i, rfl, h1, h2⟩ := ref_row h
    obtain ⟨e1, e2, e3, e4⟩ := rt_fwd a i x y hc ⟨h1, h2⟩
    have ep : plT a (i : Int) x y = placeT a i x y := by unfold plT; rw [h]; rfl
    rw [ep, e1, e2, e3, e4]
    simp [plV, plOk, h, sl]
/-- What is read as a place has its text. -/
theorem text_back (u : ByteArray) (h : plOk (rpC u) (l1I (rp3 u)) = true) : plT (sl (plOk (rpC u) (l1I (rp3 u))) (rpC u)) (sl (plOk (rpC u) (l1I (rp3 u))) ((l1I (rp3 u)).getD 0)) (plOk (rpC u) (l1I (rp3 u)) && hasD u) (plOk (rpC u) (l1I (rp3 u)) && hasD (rp2 u)) = u := by
  rw [h]
  simp only [sl, if_true, Bool.true_and]
  cases hl : l1I (rp3 u) with
  | none => rw [hl] at h; cases h
  | some v =>
    rw [hl] at h
    have hr : refOkB (rpC u) v = true := by simpa [plOk] using h
    obtain ⟨hc, _⟩ := ref_row hr
    obtain ⟨i, rfl, hi, he⟩ := rt_back u v hl (by omega)
    show plT (rpC u) (i : Int) (hasD u) (hasD (rp2 u)) = u
    unfold plT
    rw [hr]
    exact he

set_option maxRecDepth 100000 in
set_option maxHeartbeats 8000000 in
theorem law_FnPlaces (A : Option Addr) (len cap : Nat) (w : World) (hz : len ≤ 1048576 → Cd w A len) (hv : Vars w) : Calls Tryd.prog 3 #[.slice A len cap] w fun e w' =>
    e = .returned (.bool true) ∧ Below w.heap.size w w' := by
  have HV : Hid (Vars w) := hv
  clear hv
  by_cases hbig : (1048576 : Int) < (len : Int)
  · go_enter Tryd.func3, Tryd.ntmps3
    go_wp2_with fail
    refine (laws_big A len cap _).mono ?_
    rintro e wq ⟨rfl, hw⟩
    subst wq
    go_wp2_with fail
    go_ret
    exact ⟨rfl, by go_grown⟩
  have HC : Hid (Cd w A len) := hz (by omega)
  clear hz
  go_enter Tryd.func3, Tryd.ntmps3
  go_wp2_with fail
  refine (laws_big A len cap _).mono ?_
  rintro e wq ⟨rfl, hw⟩
  subst wq
  go_wp2_with fail
  refine (draw_colText A len cap _ HC.out).mono ?_
  rintro e u1 ⟨n, rfl, hb⟩
  have K1 : Hid (Below w.heap.size w u1) := hb
  clear hb
  go_wp2_with fail
  refine (impl_ColText n _).mono ?_
  rintro e u2 ⟨rfl, hb⟩
  have K2 : Hid (Below w.heap.size w u2) := bchain K1.out hb
  clear hb
  go_wp2_with fail
  refine (draw_readCol A len cap _ (HC.out.below K2.out)).mono ?_
  rintro e u3 ⟨c, rfl, hc, hb⟩
  have K3 : Hid (Below w.heap.size w u3) := bchain K2.out hb
  have HCS : Hid (c.size ≤ maxLen) := (by unfold maxLen; omega : c.size ≤ maxLen)
  clear hb hc
  have HSS : Hid ((colT n).size ≤ maxLen) := Nat.le_trans (colT_size n) (by decide)
  have HQ : Hid ((1 ≤ n ∧ n ≤ 52) ∨ colT n = ⟨#[]⟩) := by
    by_cases hn : 1 ≤ n ∧ n ≤ 52
    · exact Or.inl hn
    · exact Or.inr (colT_no (by omega))
  have HQ2 : Hid ((1 ≤ n ∧ n ≤ 52) → rdc (colT n).data.toList 0 = n ∧ (colT n == (⟨#[]⟩ : ByteArray)) = false ∧ ¬ colT n = ⟨#[]⟩) := fun hn => ⟨rdc_col n hn.1 hn.2, col_some hn, col_ne hn⟩
  obtain ⟨S, HS⟩ : ∃ S, Hid (colT n = S) := ⟨_, rfl⟩
  obtain ⟨R, HRC⟩ : ∃ R, Hid (rdc c.data.toList 0 = R) := ⟨_, rfl⟩
  rw [HS.out] at HSS HQ HQ2 ⊢
  rcases HQ.out with hn | hn
  · obtain ⟨hr, hse, hsn⟩ := HQ2.out hn
    have hsl : ¬ S.toList = [] := fun e9 => hsn (by apply ByteArray.ext; apply Array.ext'; rw [← ByteArray.toList_eq]; exact e9)
    have HSR : Hid (rdc S.data.toList 0 = n) := hr
    clear HQ HQ2 hr hn hse
    go_wp2_with (first
      | (go_at_call 12; refine (spec_ColText _ _).mono ?_; rintro e u4 ⟨rfl, hb⟩; rw [HS.out]; have K4 : Hid (Below w.heap.size w u4) := (bchain K3.out hb); clear hb)
      | (go_at_call 13; refine (impl_ReadCol _ _ (by first | exact HCS.out | exact HSS.out)).mono ?_; rintro e uq ⟨rfl, hw⟩; subst uq; (first | rw [HRC.out] | rw [HSR.out]))
      | (go_at_call 14; refine (spec_ReadCol _ _).mono ?_; rintro e u5 ⟨rfl, hb⟩; rw [HRC.out]; have K5 : Hid (Below w.heap.size w u5) := (bchain K4.out hb); clear hb))
    clear HSS HSR HS HRC hsn hsl HCS
    refine (draw_placeText A len cap _ (HC.out.below K5.out)).mono ?_
    rintro e u6 ⟨a, b, x, y, rfl, hb⟩
    have K6 : Hid (Below w.heap.size w u6) := bchain K5.out hb
    have C6 : Hid (C4 (u6.alloc (.cells #[.int .i64 a, .int .i64 b, .bool x, .bool y] 31)) u6.heap.size (.int .i64 a) (.int .i64 b) (.bool x) (.bool y)) := C4.new _ _ _ _ _ _
    clear hb
    go_wp2_with fail
    refine (impl_PlaceText_any a b x y _).mono ?_
    rintro e u7 ⟨rfl, hb⟩
    have K7 : Hid (Below w.heap.size w u7) := bchain (bchain K6.out (by go_grown)) hb
    have C7 : Hid (C4 u7 u6.heap.size (.int .i64 a) (.int .i64 b) (.bool x) (.bool y)) := C6.out.below hb
    have HTS : Hid ((plT a b x y).size ≤ 6) := plT_size a b x y
    obtain ⟨T, HT⟩ : ∃ T, Hid (plT a b x y = T) := ⟨_, rfl⟩
    rw [HT.out] at HTS ⊢
    clear hb C6
    cases hO : refOkB a b
    · have HRB : Hid (plV (rpC T) (rdec (rp3 T).data.toList) (hasD T) (hasD (rp2 T)) = .tuple #[.agg #[.int .i64 0, .int .i64 0, .bool false, .bool false], .bool false]) := by
        show _ = _
        rw [← HT.out, read_back, hO]
        rfl
      have HO : Hid (refOkB a b = false) := hO
      clear hO
      go_wp2_with fail
      refine (impl_ReadPlace T _ (by have := HTS.out; omega) (HV.out.below K7.out)).mono ?_
      rintro e u8 ⟨rfl, hb⟩
      rw [HRB.out]
      have K8 : Hid (Below w.heap.size w u8) := bchain K7.out hb
      have CP8 : Hid (C4 (u8.alloc (.cells #[.int .i64 0, .int .i64 0, .bool false, .bool false] 31)) u6.heap.size (.int .i64 a) (.int .i64 b) (.bool x) (.bool y)) := (C7.out.below hb).below (by go_grown)
      have CQ8 : Hid (C4 (u8.alloc (.cells #[.int .i64 0, .int .i64 0, .bool false, .bool false] 31)) u8.heap.size (.int .i64 0) (.int .i64 0) (.bool false) (.bool false)) := C4.new _ _ _ _ _ _
      obtain ⟨lp8, ⟨p0, p1, p2, p3⟩, fp8⟩ := C7.out.below hb
      clear hb C7 HRB fp8
      go_wp2_with (first
        | (go_at_call 18; refine (spec_PlaceText_any a b x y _).mono ?_; rintro e u9 ⟨rfl, hb⟩; rw [HT.out]; have K9 : Hid (Below w.heap.size w u9) := (bchain (bchain K8.out (by go_grown)) hb); obtain ⟨lp9, ⟨r0, r1, r2, r3⟩, fp9⟩ := CP8.out.below hb; obtain ⟨lq9, ⟨s0, s1, s2, s3⟩, fq9⟩ := CQ8.out.below hb; have CP9 : Hid (C4 u9 u6.heap.size (.int .i64 a) (.int .i64 b) (.bool x) (.bool y)) := (CP8.out.below hb); have CQ9 : Hid (C4 u9 u8.heap.size (.int .i64 0) (.int .i64 0) (.bool false) (.bool false)) := (CQ8.out.below hb); clear hb fp9 fq9)
        | (go_at_call 19; refine (impl_RefOk a b _).mono ?_; rintro e u10 ⟨rfl, hb⟩; rw [HO.out]; have K10 : Hid (Below w.heap.size w u10) := (bchain K9.out hb); obtain ⟨lp10, ⟨t0, t1, t2, t3⟩, fp10⟩ := CP9.out.below hb; obtain ⟨lq10, ⟨v0, v1, v2, v3⟩, fq10⟩ := CQ9.out.below hb; clear hb fp10 fq10))
      have KL : Hid (Below w.heap.size w u10) := K10.out
      refine (draw_readPlace A len cap _ (HC.out.below K10.out)).mono ?_
      rintro e z1 ⟨u, rfl, hus, hb⟩
      have L1 : Hid (Below w.heap.size w z1) := bchain K10.out hb
      have HUS : Hid (u.size ≤ 8) := hus
      clear hb hus
      obtain ⟨P, Q, X, Y, K, hpl, hbk⟩ : ∃ P Q X Y K, plV (rpC u) (l1I (rp3 u)) (hasD u) (hasD (rp2 u)) = .tuple #[.agg #[.int .i64 P, .int .i64 Q, .bool X, .bool Y], .bool K] ∧ (K = true → plT P Q X Y = u) := ⟨_, _, _, _, _, rfl, text_back u⟩
      have HP : Hid (plV (rpC u) (l1I (rp3 u)) (hasD u) (hasD (rp2 u)) = .tuple #[.agg #[.int .i64 P, .int .i64 Q, .bool X, .bool Y], .bool K]) := hpl
      have HQ9 : Hid (plV (rpC u) (rdec (rp3 u).data.toList) (hasD u) (hasD (rp2 u)) = .tuple #[.agg #[.int .i64 P, .int .i64 Q, .bool X, .bool Y], .bool K]) := (pl_same _ _ _ _).trans hpl
      have HBK : Hid (K = true → plT P Q X Y = u) := hbk
      clear hpl hbk
      go_wp2_with fail
      refine (impl_ReadPlace u _ (by have := HUS.out; omega) (HV.out.below L1.out)).mono ?_
      rintro e z2 ⟨rfl, hb⟩
      rw [HQ9.out]
      have L2 : Hid (Below w.heap.size w z2) := bchain L1.out hb
      have D2 : Hid (C4 (z2.alloc (.cells #[.int .i64 P, .int .i64 Q, .bool X, .bool Y] 31)) z2.heap.size (.int .i64 P) (.int .i64 Q) (.bool X) (.bool Y)) := C4.new _ _ _ _ _ _
      clear hb
      go_wp2_with fail
      refine (spec_ReadPlace_all u _ (by have := HUS.out; omega)).mono ?_
      rintro e z3 ⟨rfl, hb⟩
      rw [HP.out]
      have L3 : Hid (Below w.heap.size w z3) := bchain (bchain L2.out (by go_grown)) hb
      obtain ⟨lp3, ⟨y0, y1, y2, y3⟩, fz3⟩ := D2.out.below hb
      clear hb D2 fz3
      cases K
      · go_wp2_with fail
        go_ret
        exact ⟨rfl, by have hk := L3.out; have hsz := L3.out.size; go_grown⟩
      · have HE : Hid (plT P Q X Y = u) := HBK.out rfl
        go_wp2_with (go_at_call 16; refine (impl_PlaceText_any P Q X Y _).mono ?_; rintro e z4 ⟨rfl, hb⟩; rw [HE.out]; have L4 : Hid (Below w.heap.size w z4) := (bchain (bchain L3.out (by go_grown)) hb); clear hb)
        go_ret
        exact ⟨rfl, L4.out⟩
    · have HRB : Hid (plV (rpC T) (rdec (rp3 T).data.toList) (hasD T) (hasD (rp2 T)) = .tuple #[.agg #[.int .i64 a, .int .i64 b, .bool x, .bool y], .bool true]) := by
        show _ = _
        rw [← HT.out, read_back, hO]
        rfl
      have HO : Hid (refOkB a b = true) := hO
      clear hO
      go_wp2_with fail
      refine (impl_ReadPlace T _ (by have := HTS.out; omega) (HV.out.below K7.out)).mono ?_
      rintro e u8 ⟨rfl, hb⟩
      rw [HRB.out]
      have K8 : Hid (Below w.heap.size w u8) := bchain K7.out hb
      have CP8 : Hid (C4 (u8.alloc (.cells #[.int .i64 a, .int .i64 b, .bool x, .bool y] 31)) u6.heap.size (.int .i64 a) (.int .i64 b) (.bool x) (.bool y)) := (C7.out.below hb).below (by go_grown)
      have CQ8 : Hid (C4 (u8.alloc (.cells #[.int .i64 a, .int .i64 b, .bool x, .bool y] 31)) u8.heap.size (.int .i64 a) (.int .i64 b) (.bool x) (.bool y)) := C4.new _ _ _ _ _ _
      obtain ⟨lp8, ⟨p0, p1, p2, p3⟩, fp8⟩ := C7.out.below hb
      clear hb C7 HRB fp8
      go_wp2_with (first
        | (go_at_call 18; refine (spec_PlaceText_any a b x y _).mono ?_; rintro e u9 ⟨rfl, hb⟩; rw [HT.out]; have K9 : Hid (Below w.heap.size w u9) := (bchain (bchain K8.out (by go_grown)) hb); obtain ⟨lp9, ⟨r0, r1, r2, r3⟩, fp9⟩ := CP8.out.below hb; obtain ⟨lq9, ⟨s0, s1, s2, s3⟩, fq9⟩ := CQ8.out.below hb; have CP9 : Hid (C4 u9 u6.heap.size (.int .i64 a) (.int .i64 b) (.bool x) (.bool y)) := (CP8.out.below hb); have CQ9 : Hid (C4 u9 u8.heap.size (.int .i64 a) (.int .i64 b) (.bool x) (.bool y)) := (CQ8.out.below hb); clear hb fp9 fq9)
        | (go_at_call 19; refine (impl_RefOk a b _).mono ?_; rintro e u10 ⟨rfl, hb⟩; rw [HO.out]; have K10 : Hid (Below w.heap.size w u10) := (bchain K9.out hb); obtain ⟨lp10, ⟨t0, t1, t2, t3⟩, fp10⟩ := CP9.out.below hb; obtain ⟨lq10, ⟨v0, v1, v2, v3⟩, fq10⟩ := CQ9.out.below hb; clear hb fp10 fq10))
      have KL : Hid (Below w.heap.size w u10) := K10.out
      refine (draw_readPlace A len cap _ (HC.out.below K10.out)).mono ?_
      rintro e z1 ⟨u, rfl, hus, hb⟩
      have L1 : Hid (Below w.heap.size w z1) := bchain K10.out hb
      have HUS : Hid (u.size ≤ 8) := hus
      clear hb hus
      obtain ⟨P, Q, X, Y, K, hpl, hbk⟩ : ∃ P Q X Y K, plV (rpC u) (l1I (rp3 u)) (hasD u) (hasD (rp2 u)) = .tuple #[.agg #[.int .i64 P, .int .i64 Q, .bool X, .bool Y], .bool K] ∧ (K = true → plT P Q X Y = u) := ⟨_, _, _, _, _, rfl, text_back u⟩
      have HP : Hid (plV (rpC u) (l1I (rp3 u)) (hasD u) (hasD (rp2 u)) = .tuple #[.agg #[.int .i64 P, .int .i64 Q, .bool X, .bool Y], .bool K]) := hpl
      have HQ9 : Hid (plV (rpC u) (rdec (rp3 u).data.toList) (hasD u) (hasD (rp2 u)) = .tuple #[.agg #[.int .i64 P, .int .i64 Q, .bool X, .bool Y], .bool K]) := (pl_same _ _ _ _).trans hpl
      have HBK : Hid (K = true → plT P Q X Y = u) := hbk
      clear hpl hbk
      go_wp2_with fail
      refine (impl_ReadPlace u _ (by have := HUS.out; omega) (HV.out.below L1.out)).mono ?_
      rintro e z2 ⟨rfl, hb⟩
      rw [HQ9.out]
      have L2 : Hid (Below w.heap.size w z2) := bchain L1.out hb
      have D2 : Hid (C4 (z2.alloc (.cells #[.int .i64 P, .int .i64 Q, .bool X, .bool Y] 31)) z2.heap.size (.int .i64 P) (.int .i64 Q) (.bool X) (.bool Y)) := C4.new _ _ _ _ _ _
      clear hb
      go_wp2_with fail
      refine (spec_ReadPlace_all u _ (by have := HUS.out; omega)).mono ?_
      rintro e z3 ⟨rfl, hb⟩
      rw [HP.out]
      have L3 : Hid (Below w.heap.size w z3) := bchain (bchain L2.out (by go_grown)) hb
      obtain ⟨lp3, ⟨y0, y1, y2, y3⟩, fz3⟩ := D2.out.below hb
      clear hb D2 fz3
      cases K
      · go_wp2_with fail
        go_ret
        exact ⟨rfl, by have hk := L3.out; have hsz := L3.out.size; go_grown⟩
      · have HE : Hid (plT P Q X Y = u) := HBK.out rfl
        go_wp2_with (go_at_call 16; refine (impl_PlaceText_any P Q X Y _).mono ?_; rintro e z4 ⟨rfl, hb⟩; rw [HE.out]; have L4 : Hid (Below w.heap.size w z4) := (bchain (bchain L3.out (by go_grown)) hb); clear hb)
        go_ret
        exact ⟨rfl, L4.out⟩
  · have hel : S.toList = [] := by rw [hn, ByteArray.toList_eq]
    have HSR : Hid (rdc c.data.toList 0 = R) := HRC.out
    clear HQ HQ2 hn
    go_wp2_with (first
      | (go_at_call 12; refine (spec_ColText _ _).mono ?_; rintro e u4 ⟨rfl, hb⟩; rw [HS.out]; have K4 : Hid (Below w.heap.size w u4) := (bchain K3.out hb); clear hb)
      | (go_at_call 13; refine (impl_ReadCol _ _ (by first | exact HCS.out | exact HSS.out)).mono ?_; rintro e uq ⟨rfl, hw⟩; subst uq; (first | rw [HRC.out] | rw [HSR.out]))
      | (go_at_call 14; refine (spec_ReadCol _ _).mono ?_; rintro e u5 ⟨rfl, hb⟩; rw [HRC.out]; have K5 : Hid (Below w.heap.size w u5) := (bchain K4.out hb); clear hb))
    clear HSS HSR HS HRC hel HCS
    refine (draw_placeText A len cap _ (HC.out.below K5.out)).mono ?_
    rintro e u6 ⟨a, b, x, y, rfl, hb⟩
    have K6 : Hid (Below w.heap.size w u6) := bchain K5.out hb
    have C6 : Hid (C4 (u6.alloc (.cells #[.int .i64 a, .int .i64 b, .bool x, .bool y] 31)) u6.heap.size (.int .i64 a) (.int .i64 b) (.bool x) (.bool y)) := C4.new _ _ _ _ _ _
    clear hb
    go_wp2_with fail
    refine (impl_PlaceText_any a b x y _).mono ?_
    rintro e u7 ⟨rfl, hb⟩
    have K7 : Hid (Below w.heap.size w u7) := bchain (bchain K6.out (by go_grown)) hb
    have C7 : Hid (C4 u7 u6.heap.size (.int .i64 a) (.int .i64 b) (.bool x) (.bool y)) := C6.out.below hb
    have HTS : Hid ((plT a b x y).size ≤ 6) := plT_size a b x y
    obtain ⟨T, HT⟩ : ∃ T, Hid (plT a b x y = T) := ⟨_, rfl⟩
    rw [HT.out] at HTS ⊢
    clear hb C6
    cases hO : refOkB a b
    · have HRB : Hid (plV (rpC T) (rdec (rp3 T).data.toList) (hasD T) (hasD (rp2 T)) = .tuple #[.agg #[.int .i64 0, .int .i64 0, .bool false, .bool false], .bool false]) := by
        show _ = _
        rw [← HT.out, read_back, hO]
        rfl
      have HO : Hid (refOkB a b = false) := hO
      clear hO
      go_wp2_with fail
      refine (impl_ReadPlace T _ (by have := HTS.out; omega) (HV.out.below K7.out)).mono ?_
      rintro e u8 ⟨rfl, hb⟩
      rw [HRB.out]
      have K8 : Hid (Below w.heap.size w u8) := bchain K7.out hb
      have CP8 : Hid (C4 (u8.alloc (.cells #[.int .i64 0, .int .i64 0, .bool false, .bool false] 31)) u6.heap.size (.int .i64 a) (.int .i64 b) (.bool x) (.bool y)) := (C7.out.below hb).below (by go_grown)
      have CQ8 : Hid (C4 (u8.alloc (.cells #[.int .i64 0, .int .i64 0, .bool false, .bool false] 31)) u8.heap.size (.int .i64 0) (.int .i64 0) (.bool false) (.bool false)) := C4.new _ _ _ _ _ _
      obtain ⟨lp8, ⟨p0, p1, p2, p3⟩, fp8⟩ := C7.out.below hb
      clear hb C7 HRB fp8
      go_wp2_with (first
        | (go_at_call 18; refine (spec_PlaceText_any a b x y _).mono ?_; rintro e u9 ⟨rfl, hb⟩; rw [HT.out]; have K9 : Hid (Below w.heap.size w u9) := (bchain (bchain K8.out (by go_grown)) hb); obtain ⟨lp9, ⟨r0, r1, r2, r3⟩, fp9⟩ := CP8.out.below hb; obtain ⟨lq9, ⟨s0, s1, s2, s3⟩, fq9⟩ := CQ8.out.below hb; have CP9 : Hid (C4 u9 u6.heap.size (.int .i64 a) (.int .i64 b) (.bool x) (.bool y)) := (CP8.out.below hb); have CQ9 : Hid (C4 u9 u8.heap.size (.int .i64 0) (.int .i64 0) (.bool false) (.bool false)) := (CQ8.out.below hb); clear hb fp9 fq9)
        | (go_at_call 19; refine (impl_RefOk a b _).mono ?_; rintro e u10 ⟨rfl, hb⟩; rw [HO.out]; have K10 : Hid (Below w.heap.size w u10) := (bchain K9.out hb); obtain ⟨lp10, ⟨t0, t1, t2, t3⟩, fp10⟩ := CP9.out.below hb; obtain ⟨lq10, ⟨v0, v1, v2, v3⟩, fq10⟩ := CQ9.out.below hb; clear hb fp10 fq10))
      have KL : Hid (Below w.heap.size w u10) := K10.out
      refine (draw_readPlace A len cap _ (HC.out.below K10.out)).mono ?_
      rintro e z1 ⟨u, rfl, hus, hb⟩
      have L1 : Hid (Below w.heap.size w z1) := bchain K10.out hb
      have HUS : Hid (u.size ≤ 8) := hus
      clear hb hus
      obtain ⟨P, Q, X, Y, K, hpl, hbk⟩ : ∃ P Q X Y K, plV (rpC u) (l1I (rp3 u)) (hasD u) (hasD (rp2 u)) = .tuple #[.agg #[.int .i64 P, .int .i64 Q, .bool X, .bool Y], .bool K] ∧ (K = true → plT P Q X Y = u) := ⟨_, _, _, _, _, rfl, text_back u⟩
      have HP : Hid (plV (rpC u) (l1I (rp3 u)) (hasD u) (hasD (rp2 u)) = .tuple #[.agg #[.int .i64 P, .int .i64 Q, .bool X, .bool Y], .bool K]) := hpl
      have HQ9 : Hid (plV (rpC u) (rdec (rp3 u).data.toList) (hasD u) (hasD (rp2 u)) = .tuple #[.agg #[.int .i64 P, .int .i64 Q, .bool X, .bool Y], .bool K]) := (pl_same _ _ _ _).trans hpl
      have HBK : Hid (K = true → plT P Q X Y = u) := hbk
      clear hpl hbk
      go_wp2_with fail
      refine (impl_ReadPlace u _ (by have := HUS.out; omega) (HV.out.below L1.out)).mono ?_
      rintro e z2 ⟨rfl, hb⟩
      rw [HQ9.out]
      have L2 : Hid (Below w.heap.size w z2) := bchain L1.out hb
      have D2 : Hid (C4 (z2.alloc (.cells #[.int .i64 P, .int .i64 Q, .bool X, .bool Y] 31)) z2.heap.size (.int .i64 P) (.int .i64 Q) (.bool X) (.bool Y)) := C4.new _ _ _ _ _ _
      clear hb
      go_wp2_with fail
      refine (spec_ReadPlace_all u _ (by have := HUS.out; omega)).mono ?_
      rintro e z3 ⟨rfl, hb⟩
      rw [HP.out]
      have L3 : Hid (Below w.heap.size w z3) := bchain (bchain L2.out (by go_grown)) hb
      obtain ⟨lp3, ⟨y0, y1, y2, y3⟩, fz3⟩ := D2.out.below hb
      clear hb D2 fz3
      cases K
      · go_wp2_with fail
        go_ret
        exact ⟨rfl, by have hk := L3.out; have hsz := L3.out.size; go_grown⟩
      · have HE : Hid (plT P Q X Y = u) := HBK.out rfl
        go_wp2_with (go_at_call 16; refine (impl_PlaceText_any P Q X Y _).mono ?_; rintro e z4 ⟨rfl, hb⟩; rw [HE.out]; have L4 : Hid (Below w.heap.size w z4) := (bchain (bchain L3.out (by go_grown)) hb); clear hb)
        go_ret
        exact ⟨rfl, L4.out⟩
    · have HRB : Hid (plV (rpC T) (rdec (rp3 T).data.toList) (hasD T) (hasD (rp2 T)) = .tuple #[.agg #[.int .i64 a, .int .i64 b, .bool x, .bool y], .bool true]) := by
        show _ = _
        rw [← HT.out, read_back, hO]
        rfl
      have HO : Hid (refOkB a b = true) := hO
      clear hO
      go_wp2_with fail
      refine (impl_ReadPlace T _ (by have := HTS.out; omega) (HV.out.below K7.out)).mono ?_
      rintro e u8 ⟨rfl, hb⟩
      rw [HRB.out]
      have K8 : Hid (Below w.heap.size w u8) := bchain K7.out hb
      have CP8 : Hid (C4 (u8.alloc (.cells #[.int .i64 a, .int .i64 b, .bool x, .bool y] 31)) u6.heap.size (.int .i64 a) (.int .i64 b) (.bool x) (.bool y)) := (C7.out.below hb).below (by go_grown)
      have CQ8 : Hid (C4 (u8.alloc (.cells #[.int .i64 a, .int .i64 b, .bool x, .bool y] 31)) u8.heap.size (.int .i64 a) (.int .i64 b) (.bool x) (.bool y)) := C4.new _ _ _ _ _ _
      obtain ⟨lp8, ⟨p0, p1, p2, p3⟩, fp8⟩ := C7.out.below hb
      clear hb C7 HRB fp8
      go_wp2_with (first
        | (go_at_call 18; refine (spec_PlaceText_any a b x y _).mono ?_; rintro e u9 ⟨rfl, hb⟩; rw [HT.out]; have K9 : Hid (Below w.heap.size w u9) := (bchain (bchain K8.out (by go_grown)) hb); obtain ⟨lp9, ⟨r0, r1, r2, r3⟩, fp9⟩ := CP8.out.below hb; obtain ⟨lq9, ⟨s0, s1, s2, s3⟩, fq9⟩ := CQ8.out.below hb; have CP9 : Hid (C4 u9 u6.heap.size (.int .i64 a) (.int .i64 b) (.bool x) (.bool y)) := (CP8.out.below hb); have CQ9 : Hid (C4 u9 u8.heap.size (.int .i64 a) (.int .i64 b) (.bool x) (.bool y)) := (CQ8.out.below hb); clear hb fp9 fq9)
        | (go_at_call 19; refine (impl_RefOk a b _).mono ?_; rintro e u10 ⟨rfl, hb⟩; rw [HO.out]; have K10 : Hid (Below w.heap.size w u10) := (bchain K9.out hb); obtain ⟨lp10, ⟨t0, t1, t2, t3⟩, fp10⟩ := CP9.out.below hb; obtain ⟨lq10, ⟨v0, v1, v2, v3⟩, fq10⟩ := CQ9.out.below hb; clear hb fp10 fq10))
      have KL : Hid (Below w.heap.size w u10) := K10.out
      refine (draw_readPlace A len cap _ (HC.out.below K10.out)).mono ?_
      rintro e z1 ⟨u, rfl, hus, hb⟩
      have L1 : Hid (Below w.heap.size w z1) := bchain K10.out hb
      have HUS : Hid (u.size ≤ 8) := hus
      clear hb hus
      obtain ⟨P, Q, X, Y, K, hpl, hbk⟩ : ∃ P Q X Y K, plV (rpC u) (l1I (rp3 u)) (hasD u) (hasD (rp2 u)) = .tuple #[.agg #[.int .i64 P, .int .i64 Q, .bool X, .bool Y], .bool K] ∧ (K = true → plT P Q X Y = u) := ⟨_, _, _, _, _, rfl, text_back u⟩
      have HP : Hid (plV (rpC u) (l1I (rp3 u)) (hasD u) (hasD (rp2 u)) = .tuple #[.agg #[.int .i64 P, .int .i64 Q, .bool X, .bool Y], .bool K]) := hpl
      have HQ9 : Hid (plV (rpC u) (rdec (rp3 u).data.toList) (hasD u) (hasD (rp2 u)) = .tuple #[.agg #[.int .i64 P, .int .i64 Q, .bool X, .bool Y], .bool K]) := (pl_same _ _ _ _).trans hpl
      have HBK : Hid (K = true → plT P Q X Y = u) := hbk
      clear hpl hbk
      go_wp2_with fail
      refine (impl_ReadPlace u _ (by have := HUS.out; omega) (HV.out.below L1.out)).mono ?_
      rintro e z2 ⟨rfl, hb⟩
      rw [HQ9.out]
      have L2 : Hid (Below w.heap.size w z2) := bchain L1.out hb
      have D2 : Hid (C4 (z2.alloc (.cells #[.int .i64 P, .int .i64 Q, .bool X, .bool Y] 31)) z2.heap.size (.int .i64 P) (.int .i64 Q) (.bool X) (.bool Y)) := C4.new _ _ _ _ _ _
      clear hb
      go_wp2_with fail
      refine (spec_ReadPlace_all u _ (by have := HUS.out; omega)).mono ?_
      rintro e z3 ⟨rfl, hb⟩
      rw [HP.out]
      have L3 : Hid (Below w.heap.size w z3) := bchain (bchain L2.out (by go_grown)) hb
      obtain ⟨lp3, ⟨y0, y1, y2, y3⟩, fz3⟩ := D2.out.below hb
      clear hb D2 fz3
      cases K
      · go_wp2_with fail
        go_ret
        exact ⟨rfl, by have hk := L3.out; have hsz := L3.out.size; go_grown⟩
      · have HE : Hid (plT P Q X Y = u) := HBK.out rfl
        go_wp2_with (go_at_call 16; refine (impl_PlaceText_any P Q X Y _).mono ?_; rintro e z4 ⟨rfl, hb⟩; rw [HE.out]; have L4 : Hid (Below w.heap.size w z4) := (bchain (bchain L3.out (by go_grown)) hb); clear hb)
        go_ret
        exact ⟨rfl, L4.out⟩
end Go.Proofs.YtjcicndioddcmaaDoor
