import Derived.Test.YtanjlpgdmnapdaaDkG
namespace Go.Proofs.Ytanjlpgdmnapdaa
open Go.RowKit Go.Maps
set_option linter.unusedSimpArgs false
set_option linter.unusedVariables false

theorem has_dk0 {w : World} {B : Nat} : DkHas w B (.agg #[.slice none 0 0, .slice none 0 0, .slice none 0 0]) dk0 := ⟨_, _, _, rfl, own_nil, own_nil, own_nil⟩
/-- What Do answers: its code and its disk. -/
def sdK (d : DK) (x : DP) : Int := if diskB d = true then doK d x else 1
def sdD (d : DK) (x : DP) : DK := if diskB d = true then acD d x else dk0
set_option maxRecDepth 100000 in
set_option maxHeartbeats 8000000 in
theorem spec_Do {v : Value} {d : DK} (x : DP) (w : World) (h : DkRow w v d) (hl : DkLil d) (hx : dpLil x) :
    Calls Try.prog 21 #[v, .agg #[.int .i64 x.k, .string x.n, .string x.t, .string x.d]] w fun e w' => ∃ v', e = .returned (.tuple #[v', .int .i64 (sdK d x)]) ∧ DkHas w' w.heap.size v' (sdD d x) ∧ Below w.heap.size w w' := by
  have HR : Hid (DkRow w v d) := h
  have HL : Hid (DkLil d) := hl
  have HX : Hid (dpLil x) := hx
  obtain ⟨A1, c1, A2, c2, A3, c3, rfl, r1, r2, r3, z1, z2, z3⟩ := h
  obtain ⟨n1, HN1⟩ : ∃ n1, Hid (d.live.length = n1) := ⟨_, rfl⟩
  obtain ⟨n2, HN2⟩ : ∃ n2, Hid (d.safe.length = n2) := ⟨_, rfl⟩
  obtain ⟨n3, HN3⟩ : ∃ n3, Hid (d.ops.length = n3) := ⟨_, rfl⟩
  rw [HN1.out, HN2.out, HN3.out] at HR ⊢
  clear r1 r2 r3 z1 z2 z3 hl hx
  obtain ⟨rr, HRR⟩ : ∃ rr, Hid (diskB d = rr) := ⟨_, rfl⟩
  cases rr
  · have HE : Hid (sdD d x = dk0) := by show _ = _; rw [sdD, HRR.out]; rfl
    have HK : Hid (sdK d x = 1) := by show _ = _; rw [sdK, HRR.out]; rfl
    rw [HE.out, HK.out]
    go_enter Try.func21, Try.ntmps21
    go_wp2_with fail
    refine (spec_DiskOk _ (HR.out.below (by go_grown)) HL.out).mono ?_
    rintro e w1 ⟨rfl, hb⟩
    rw [HRR.out]
    have p0 := cy hb (b := w.heap.size + 1 + 1) (o := 0) (x := .slice none 0 0) (by go_simp)
    have p1 := cy hb (b := w.heap.size + 1 + 1) (o := 1) (x := .slice none 0 0) (by go_simp)
    have p2 := cy hb (b := w.heap.size + 1 + 1) (o := 2) (x := .slice none 0 0) (by go_simp)
    have pf : ∀ o, w1.frozen? ⟨w.heap.size + 1 + 1, o, none⟩ = false := fun o => by
      rw [hb.frozen (p := ⟨w.heap.size + 1 + 1, o, none⟩) (by simp)]
      go_simp
    have HB1 : Hid (Below w.heap.size w w1) := Below.trans (by go_grown) (hb.mono (by simp; omega))
    have hz1 : w.heap.size + 1 + 1 < w1.heap.size := World.block_lt_of_cell? w1 ⟨w.heap.size + 1 + 1, 0, none⟩ p0
    clear hb
    go_wp2_with fail
    refine bodyPost_ret (v := .tuple #[.agg #[.slice none 0 0, .slice none 0 0, .slice none 0 0], .int .i64 1]) ?_ rfl ⟨_, rfl, has_dk0, ?_⟩
    · simp (maxDischargeDepth := 9) [results, Try.results21, go_sem, *]
    · exact ((HB1.out.setCell (by show w.heap.size ≤ w.heap.size + 1 + 1; omega) _).setCell (by show w.heap.size ≤ w.heap.size + 1 + 1; omega) _).setCell (by show w.heap.size ≤ w.heap.size + 1 + 1; omega) _
  · have HE : Hid (sdD d x = acD d x) := by show _ = _; rw [sdD, HRR.out]; rfl
    have HK : Hid (sdK d x = doK d x) := by show _ = _; rw [sdK, HRR.out]; rfl
    rw [HE.out, HK.out]
    go_enter Try.func21, Try.ntmps21
    go_wp2_with fail
    refine (spec_DiskOk _ (HR.out.below (by go_grown)) HL.out).mono ?_
    rintro e w1 ⟨rfl, hb⟩
    rw [HRR.out]
    have p0 := cy hb (b := w.heap.size + 1 + 1) (o := 0) (x := .slice none 0 0) (by go_simp)
    have p1 := cy hb (b := w.heap.size + 1 + 1) (o := 1) (x := .slice none 0 0) (by go_simp)
    have p2 := cy hb (b := w.heap.size + 1 + 1) (o := 2) (x := .slice none 0 0) (by go_simp)
    have pf : ∀ o, w1.frozen? ⟨w.heap.size + 1 + 1, o, none⟩ = false := fun o => by
      rw [hb.frozen (p := ⟨w.heap.size + 1 + 1, o, none⟩) (by simp)]
      go_simp
    have HB1 : Hid (Below w.heap.size w w1) := Below.trans (by go_grown) (hb.mono (by simp; omega))
    have hz1 : w.heap.size + 1 + 1 < w1.heap.size := World.block_lt_of_cell? w1 ⟨w.heap.size + 1 + 1, 0, none⟩ p0
    have k0 := cy hb (b := w.heap.size) (o := 0) (x := .slice A1 n1 c1) (by go_simp)
    have k1 := cy hb (b := w.heap.size) (o := 1) (x := .slice A2 n2 c2) (by go_simp)
    have k2 := cy hb (b := w.heap.size) (o := 2) (x := .slice A3 n3 c3) (by go_simp)
    have x0 := cy hb (b := w.heap.size + 1) (o := 0) (x := .int .i64 x.k) (by go_simp)
    have x1 := cy hb (b := w.heap.size + 1) (o := 1) (x := .string x.n) (by go_simp)
    have x2 := cy hb (b := w.heap.size + 1) (o := 2) (x := .string x.t) (by go_simp)
    have x3 := cy hb (b := w.heap.size + 1) (o := 3) (x := .string x.d) (by go_simp)
    clear hb
    have hl0 : w.heap.size < w1.heap.size := by omega
    have hl1 : w.heap.size + 1 < w1.heap.size := by omega
    go_wp2_with fail
    refine (spec_l13Act x _ (HR.out.below HB1.out) HL.out HX.out HRR.out).mono ?_
    rintro e w2 ⟨vv, rfl, ⟨v1, v2, v3, rfl, o1, o2, o3⟩, hb⟩
    replace p0 := cy hb p0
    replace p1 := cy hb p1
    replace p2 := cy hb p2
    replace pf : ∀ o, w2.frozen? ⟨w.heap.size + 1 + 1, o, none⟩ = false := fun o => by
      rw [hb.frozen (p := ⟨w.heap.size + 1 + 1, o, none⟩) (by show w.heap.size + 1 + 1 < w1.heap.size; omega)]
      exact pf o
    have m_w2 : w.heap.size + 1 + 1 < w2.heap.size := World.block_lt_of_cell? w2 ⟨w.heap.size + 1 + 1, 0, none⟩ p0
    have BB : Hid (Below w.heap.size w w2) := bchain HB1.out hb
    have HH : Hid (DkHas w2 w1.heap.size (.agg #[v1, v2, v3]) (acD d x)) := ⟨_, _, _, rfl, o1, o2, o3⟩
    obtain ⟨kk, HKK⟩ : ∃ kk, Hid (doK d x = kk) := ⟨_, rfl⟩
    rw [HKK.out]
    obtain ⟨D1, b1, rfl, y1, y2⟩ := own_shape o1
    obtain ⟨D2, b2, rfl, y3, y4⟩ := own_shape o2
    obtain ⟨D3, b3, rfl, y5, y6⟩ := own_shape o3
    clear hb o1 o2 o3 y1 y2 y3 y4 y5 y6 k0 k1 k2 x0 x1 x2 x3
    go_wp2_with fail
    refine bodyPost_ret (v := .tuple #[.agg #[.slice D1 (acD d x).live.length b1, .slice D2 (acD d x).safe.length b2, .slice D3 (acD d x).ops.length b3], .int .i64 kk]) ?_ rfl ⟨_, by rw [HKK.out], ?_, ?_⟩
    · simp (maxDischargeDepth := 9) [results, Try.results21, go_sem, *]
    · exact (((HH.out.set (by omega) _ _).set (by omega) _ _).set (by omega) _ _).mono (by omega)
    · exact ((BB.out.setCell (by show w.heap.size ≤ w.heap.size + 1 + 1; omega) _).setCell (by show w.heap.size ≤ w.heap.size + 1 + 1; omega) _).setCell (by show w.heap.size ≤ w.heap.size + 1 + 1; omega) _
end Go.Proofs.Ytanjlpgdmnapdaa
