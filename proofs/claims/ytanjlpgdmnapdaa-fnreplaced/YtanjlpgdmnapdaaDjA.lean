import Derived.Test.YtanjlpgdmnapdaaGi
import Derived.Test.YtanjlpgdmnapdaaGj
namespace Go.Proofs.Ytanjlpgdmnapdaa
open Go.RowKit Go.Maps
set_option linter.unusedSimpArgs false
set_option linter.unusedVariables false

set_option maxRecDepth 100000 in
set_option maxHeartbeats 2000000 in
theorem impl_read {v : Value} {d : DK} (s : ByteArray) (w : World) (h : DkRow w v d) :
    Calls Try.prog 59 #[v, .string s] w fun e w' => e = .returned (.tuple #[.string (dataK s.data.toList d.live), .bool (hasB s d.live)]) ∧ Below w.heap.size w w' := by
  obtain ⟨A1, c1, A2, c2, A3, c3, rfl, r1, r2, r3, z0⟩ := h
  have HR : Hid (FiRow w A1 d.live) := r1
  obtain ⟨n1, HN⟩ : ∃ n1, Hid (d.live.length = n1) := ⟨_, rfl⟩
  obtain ⟨n2, HN2⟩ : ∃ n2, Hid (d.safe.length = n2) := ⟨_, rfl⟩
  obtain ⟨n3, HN3⟩ : ∃ n3, Hid (d.ops.length = n3) := ⟨_, rfl⟩
  obtain ⟨L, HLL⟩ : ∃ L, Hid (d.live = L) := ⟨_, rfl⟩
  have hn := r1.1
  rw [HN.out] at hn
  unfold maxLen at hn
  rw [HN.out, HN2.out, HN3.out]
  rw [HLL.out] at HR HN ⊢
  clear r1 r2 r3 z0
  go_enter Try.func59, Try.ntmps59
  go_wp2_with fail
  go_loopw [11] (fun i wr => ∃ t : Nat, t ≤ n1 ∧ i = .int .i64 t ∧ (∀ j x, j < t → L[j]? = some x → fiK x ≠ s.data.toList) ∧ Below w.heap.size w wr) (fun i _ => n1 - (intOf i).toNat)
  case atStart => exact ⟨0, Nat.zero_le _, rfl, fun j x hj => by omega, by go_grown⟩
  case round =>
    obtain ⟨t, ht, rfl, hno, hbel⟩ := hrel
    have HNO : Hid (∀ j x, j < t → L[j]? = some x → fiK x ≠ s.data.toList) := hno
    clear hno
    by_cases hlt : t < n1
    · obtain ⟨x, hx⟩ := at_lt HN.out hlt
      have HX : Hid (L[t]? = some x) := hx
      obtain ⟨b, o, rfl, hl, hc⟩ := HR.out.2 t x hx
      have c0 : w.cell? ⟨b, o + t * 2, none⟩ = some (.string x.n) := hc 0 _ rfl
      have c1 : w.cell? ⟨b, o + t * 2 + 1, none⟩ = some (.string x.d) := hc 1 _ rfl
      clear hc hx
      have hs := hbel.size
      rw [← hbel.cell (p := ⟨_, _, none⟩) hl] at c0 c1
      have hl2 : b < wr.heap.size := Nat.lt_of_lt_of_le hl hs
      have q0 : (0 : Int) ≤ (t : Int) := by omega
      have q1 : (t : Int) < (n1 : Int) := by omega
      cases e1 : (x.n.toList == s.toList)
      · go_wp2_with fail
        go_roundw
        case rel => exact ⟨t + 1, by omega, by go_num, fun j u hj hu => by
          by_cases e : j = t
          · subst e; rw [HX.out] at hu; cases hu
            rw [str_key] at e1
            simpa [fiK] using e1
          · exact HNO.out j u (by omega) hu, by go_grown⟩
        case measure => simp [intOf]; omega
      · have HG : Hid (getK fiK s.data.toList L = some x) := by
          rw [str_key] at e1
          exact first_hit HNO.out HX.out (by simpa [fiK] using e1)
        have HE : Hid (dataK s.data.toList L = x.d ∧ hasB s L = true) := by
          have hg := HG.out
          exact ⟨by rw [dataK, hg], by rw [hasB, hg]; rfl⟩
        go_wp2_with fail
        refine bodyPost_ret (v := .tuple #[.string x.d, .bool true]) ?_ rfl ⟨by rw [HE.out.1, HE.out.2], by go_grown⟩
        simp (maxDischargeDepth := 9) [results, Try.results59, go_sem, *]
    · have h1 : ¬ (t : Int) < (n1 : Int) := by omega
      obtain rfl : t = n1 := by omega
      have HG : Hid (getK fiK s.data.toList L = none) := by
        show _ = _
        cases hg : getK fiK s.data.toList L with
        | none => rfl
        | some x =>
          obtain ⟨h2, h3⟩ := getK_some hg
          obtain ⟨j, hj, e⟩ := List.getElem_of_mem h2
          exact absurd h3 (HNO.out j x (by rw [← HN.out]; exact hj) (by rw [List.getElem?_eq_getElem hj, e]))
      have HE : Hid (dataK s.data.toList L = ⟨#[]⟩ ∧ hasB s L = false) := by
        have hg := HG.out
        exact ⟨by rw [dataK, hg], by rw [hasB, hg]; rfl⟩
      go_wp2_with fail
      refine bodyPost_ret (v := .tuple #[.string ⟨#[]⟩, .bool false]) ?_ rfl ⟨by rw [HE.out.1, HE.out.2], by go_grown⟩
      simp (maxDischargeDepth := 9) [results, Try.results59, go_sem, *]
/-- What ReadFile answers. -/
def rdS (d : DK) (s : ByteArray) : ByteArray := if diskB d = true then dataK s.data.toList d.live else ⟨#[]⟩
def rdB (d : DK) (s : ByteArray) : Bool := diskB d && hasB s d.live
set_option maxRecDepth 100000 in
set_option maxHeartbeats 2000000 in
theorem impl_ReadFile {v : Value} {d : DK} (s : ByteArray) (w : World) (h : DkRow w v d) (hl : DkLil d) :
    Calls Try.prog 22 #[v, .string s] w fun e w' => e = .returned (.tuple #[.string (rdS d s), .bool (rdB d s)]) ∧ Below w.heap.size w w' := by
  have HR : Hid (DkRow w v d) := h
  have HL : Hid (DkLil d) := hl
  obtain ⟨a1, a2, a3, b1, b2, b3, m1, m2, m3, rfl⟩ := h.agg
  obtain ⟨rr, HRR⟩ : ∃ rr, Hid (diskB d = rr) := ⟨_, rfl⟩
  clear h hl
  cases rr
  · have HE : Hid (rdS d s = ⟨#[]⟩ ∧ rdB d s = false) := by
      have hr := HRR.out
      exact ⟨by rw [rdS, hr]; rfl, by rw [rdB, hr]; rfl⟩
    go_enter Try.func22, Try.ntmps22
    go_wp2_with (first
      | (go_at_call 14; refine (impl_DiskOk _ (HR.out.below (by go_grown)) HL.out).mono ?_; rintro e w1 ⟨rfl, hb⟩; rw [HRR.out]; have HB1 : Hid (Below w.heap.size w w1) := (Below.trans (by go_grown) (hb.mono (by simp))); clear hb))
    refine bodyPost_ret (v := .tuple #[.string ⟨#[]⟩, .bool false]) ?_ rfl ⟨by rw [HE.out.1, HE.out.2], HB1.out⟩
    simp (maxDischargeDepth := 9) [results, Try.results22, go_sem, *]
  · have HE : Hid (rdS d s = dataK s.data.toList d.live ∧ rdB d s = hasB s d.live) := by
      have hr := HRR.out
      exact ⟨by rw [rdS, hr]; rfl, by rw [rdB, hr]; rfl⟩
    go_enter Try.func22, Try.ntmps22
    go_wp2_with fail
    refine (impl_DiskOk _ (HR.out.below (by go_grown)) HL.out).mono ?_
    rintro e w1 ⟨rfl, hb⟩
    rw [HRR.out]
    have k0 := cy hb (b := w.heap.size) (o := 0) (x := .slice a1 m1 b1) (by go_simp)
    have k1 := cy hb (b := w.heap.size) (o := 1) (x := .slice a2 m2 b2) (by go_simp)
    have k2 := cy hb (b := w.heap.size) (o := 2) (x := .slice a3 m3 b3) (by go_simp)
    have HB1 : Hid (Below w.heap.size w w1) := Below.trans (by go_grown) (hb.mono (by simp))
    clear hb
    go_wp2_with (first
      | (go_at_call 59; refine (impl_read s _ (HR.out.below HB1.out)).mono ?_; rintro e w2 ⟨rfl, hb⟩; have HB2 : Hid (Below w.heap.size w w2) := bchain HB1.out hb; clear hb))
    refine bodyPost_ret (v := .tuple #[.string (dataK s.data.toList d.live), .bool (hasB s d.live)]) ?_ rfl ⟨by rw [HE.out.1, HE.out.2], HB2.out⟩
    simp (maxDischargeDepth := 9) [results, Try.results22, go_sem, *]
set_option maxRecDepth 100000 in
set_option maxHeartbeats 2000000 in
theorem spec_ReadFile {v : Value} {d : DK} (s : ByteArray) (w : World) (h : DkRow w v d) (hl : DkLil d) :
    Calls Try.prog 38 #[v, .string s] w fun e w' => e = .returned (.tuple #[.string (rdS d s), .bool (rdB d s)]) ∧ Below w.heap.size w w' := by
  have HR : Hid (DkRow w v d) := h
  have HL : Hid (DkLil d) := hl
  obtain ⟨A1, c1, A2, c2, A3, c3, rfl, r1, r2, r3, z0⟩ := h
  have HR1 : Hid (FiRow w A1 d.live) := r1
  obtain ⟨n1, HN1⟩ : ∃ n1, Hid (d.live.length = n1) := ⟨_, rfl⟩
  obtain ⟨n2, HN2⟩ : ∃ n2, Hid (d.safe.length = n2) := ⟨_, rfl⟩
  obtain ⟨n3, HN3⟩ : ∃ n3, Hid (d.ops.length = n3) := ⟨_, rfl⟩
  rw [HN1.out, HN2.out, HN3.out] at HR ⊢
  obtain ⟨rr, HRR⟩ : ∃ rr, Hid (diskB d = rr) := ⟨_, rfl⟩
  clear r1 r2 r3 z0 hl
  cases rr
  · have HE : Hid (rdS d s = ⟨#[]⟩ ∧ rdB d s = false) := by
      have hr := HRR.out
      exact ⟨by rw [rdS, hr]; rfl, by rw [rdB, hr]; rfl⟩
    go_enter Try.func38, Try.ntmps38
    go_wp2_with (first
      | (go_at_call 15; refine (spec_DiskOk _ (HR.out.below (by go_grown)) HL.out).mono ?_; rintro e w1 ⟨rfl, hb⟩; rw [HRR.out]; have HB1 : Hid (Below w.heap.size w w1) := (Below.trans (by go_grown) (hb.mono (by simp))); clear hb))
    refine bodyPost_ret (v := .tuple #[.string ⟨#[]⟩, .bool false]) ?_ rfl ⟨by rw [HE.out.1, HE.out.2], HB1.out⟩
    simp (maxDischargeDepth := 9) [results, Try.results38, go_sem, *]
  · have HE : Hid (rdS d s = dataK s.data.toList d.live ∧ rdB d s = hasB s d.live) := by
      have hr := HRR.out
      exact ⟨by rw [rdS, hr]; rfl, by rw [rdB, hr]; rfl⟩
    go_enter Try.func38, Try.ntmps38
    go_wp2_with fail
    refine (spec_DiskOk _ (HR.out.below (by go_grown)) HL.out).mono ?_
    rintro e w1 ⟨rfl, hb⟩
    rw [HRR.out]
    have k0 := cy hb (b := w.heap.size) (o := 0) (x := .slice A1 n1 c1) (by go_simp)
    have HB1 : Hid (Below w.heap.size w w1) := Below.trans (by go_grown) (hb.mono (by simp))
    clear hb
    go_wp2_with fail
    refine (spec_l13At s _ (HR1.out.below HB1.out) HN1.out).mono ?_
    rintro e w2 ⟨r, rfl, hr, rfl⟩
    cases hg : getK fiK s.data.toList d.live with
    | none =>
      obtain rfl := atI_none hr hg
      have HE2 : Hid (dataK s.data.toList d.live = ⟨#[]⟩ ∧ hasB s d.live = false) := ⟨by rw [dataK, hg], by rw [hasB, hg]; rfl⟩
      clear hr hg
      go_wp2_with fail
      refine bodyPost_ret (v := .tuple #[.string ⟨#[]⟩, .bool false]) ?_ rfl ⟨by rw [HE.out.1, HE.out.2, HE2.out.1, HE2.out.2], HB1.out⟩
      simp (maxDischargeDepth := 9) [results, Try.results38, go_sem, *]
    | some x =>
      obtain ⟨i, rfl, hi⟩ := atI_some hr hg
      have HE2 : Hid (dataK s.data.toList d.live = x.d ∧ hasB s d.live = true) := ⟨by rw [dataK, hg], by rw [hasB, hg]; rfl⟩
      have hiN : i < n1 := by rw [← HN1.out]; exact (List.getElem?_eq_some_iff.1 hi).1
      obtain ⟨b, o, rfl, hl, hc⟩ := (HR1.out.below HB1.out).2 i x hi
      have d1 : w2.cell? ⟨b, o + i * 2 + 1, none⟩ = some (.string x.d) := hc 1 _ rfl
      have q0 : (0 : Int) ≤ (i : Int) := by omega
      have q1 : (i : Int) < (n1 : Int) := by omega
      have q3 : ¬ (i : Int) < 0 := by omega
      clear hr hg hi hc
      go_wp2_with fail
      refine bodyPost_ret (v := .tuple #[.string x.d, .bool true]) ?_ rfl ⟨by rw [HE.out.1, HE.out.2, HE2.out.1, HE2.out.2], HB1.out⟩
      simp (maxDischargeDepth := 9) [results, Try.results38, go_sem, *]
end Go.Proofs.Ytanjlpgdmnapdaa
