import Derived.Test.YtanjlpgdmnapdaaDjA
import Derived.Test.YtanjlpgdmnapdaaGa
import Derived.Test.YtanjlpgdmnapdaaGb
namespace Go.Proofs.Ytanjlpgdmnapdaa
open Go.RowKit Go.Maps
set_option linter.unusedSimpArgs false
set_option linter.unusedVariables false

theorem DkOwn.set {w : World} {B : Nat} {v : Value} {d : DK} (h : DkOwn w B v d) {g : Nat} (hg : g < B) (o : Nat) (u : Value) : DkOwn (w.setCell ⟨g, o, none⟩ u) B v d := by
  obtain ⟨v1, v2, v3, e, h1, h2, h3, h4⟩ := h
  exact ⟨v1, v2, v3, e, ownSet h1 hg o u, ownSet h2 hg o u, ownSet h3 hg o u, h4⟩
def dk0 : DK := ⟨[], [], []⟩
theorem own_dk0 {w : World} {B : Nat} : DkOwn w B (.agg #[.slice none 0 0, .slice none 0 0, .slice none 0 0]) dk0 := ⟨_, _, _, rfl, own_nil, own_nil, own_nil, Or.inl rfl⟩
set_option maxRecDepth 100000 in
set_option maxHeartbeats 2000000 in
theorem impl_synced {A : Option Addr} {n c : Nat} {L : List FI} (w : World) (h : FiRow w A L) (hL : L.length = n) (h0 : A = none → c = 0) (hn : n ≤ 1073741824) :
    Calls Try.prog 53 #[.slice A n c] w fun e w' => ∃ v, e = .returned v ∧ DkOwn w' w.heap.size v ⟨L, L, []⟩ ∧ Below w.heap.size w w' := by
  have HR : Hid (FiRow w A L) := h
  have HL : Hid (L.length = n) := hL
  have H0 : Hid (A = none → c = 0) := h0
  clear h hL h0
  go_enter Try.func53, Try.ntmps53
  go_wp2_with fail
  refine (listCopy_fi _ (HR.out.below (by go_grown)) HL.out H0.out hn).mono ?_
  rintro e w1 ⟨A1, c1, rfl, ho1, z1, hb⟩
  have HO1 : Hid (w1.ownsRow (w.heap.size + 1) 75 2 (.slice A1 n c1) n (flat fiL L)) := own_mono ho1 (by simp)
  have p0 := cy hb (b := w.heap.size) (o := 0) (x := .slice none 0 0) (by go_simp)
  have p1 := cy hb (b := w.heap.size) (o := 1) (x := .slice none 0 0) (by go_simp)
  have p2 := cy hb (b := w.heap.size) (o := 2) (x := .slice none 0 0) (by go_simp)
  have pf : ∀ o, w1.frozen? ⟨w.heap.size, o, none⟩ = false := fun o => by
    rw [hb.frozen (p := ⟨w.heap.size, o, none⟩) (by simp)]
    go_simp
  have HB1 : Hid (Below w.heap.size w w1) := Below.trans (by go_grown) (hb.mono (by simp))
  have hz1 : w.heap.size + 1 ≤ w1.heap.size := by simpa using hb.size
  clear ho1 z1 hb
  go_wp2_with fail
  refine (listCopy_fi _ (HR.out.below HB1.out) HL.out H0.out hn).mono ?_
  rintro e w2 ⟨A2, c2, rfl, ho2, z2, hb⟩
  have HO2 : Hid (w2.ownsRow (w.heap.size + 1) 75 2 (.slice A2 n c2) n (flat fiL L)) := own_mono ho2 hz1
  have HNE : Hid ((Value.slice A1 n c1).ownBlock = none ∨ (Value.slice A1 n c1).ownBlock ≠ (Value.slice A2 n c2).ownBlock) := own_ne HO1.out ho2 (Nat.le_refl _)
  have HO1' : Hid (w2.ownsRow (w.heap.size + 1) 75 2 (.slice A1 n c1) n (flat fiL L)) := own_below HO1.out hb
  replace p0 := cy hb p0
  replace p1 := cy hb p1
  replace p2 := cy hb p2
  replace pf : ∀ o, w2.frozen? ⟨w.heap.size, o, none⟩ = false := fun o => by
    rw [hb.frozen (p := ⟨w.heap.size, o, none⟩) (by show w.heap.size < w1.heap.size; omega)]
    exact pf o
  have HB2 : Hid (Below w.heap.size w w2) := bchain HB1.out hb
  clear ho2 z2 hb
  go_wp2_with fail
  refine bodyPost_ret (v := .agg #[.slice A1 n c1, .slice A2 n c2, .slice none 0 0]) ?_ rfl ⟨_, rfl, ⟨_, _, _, rfl, ?_, ?_, own_nil, HNE.out⟩, ?_⟩
  · simp (maxDischargeDepth := 9) [results, Try.results53, go_sem, *]
  · show World.ownsRow _ _ _ _ _ L.length _
    rw [HL.out]
    exact own_mono (ownSet (ownSet (ownSet HO1'.out (by omega) _ _) (by omega) _ _) (by omega) _ _) (by omega)
  · show World.ownsRow _ _ _ _ _ L.length _
    rw [HL.out]
    exact own_mono (ownSet (ownSet (ownSet HO2.out (by omega) _ _) (by omega) _ _) (by omega) _ _) (by omega)
  · exact ((HB2.out.setCell (Nat.le_refl _) _).setCell (Nat.le_refl _) _).setCell (Nat.le_refl _) _
def syD (d : DK) : DK := if diskB d = true then ⟨d.live, d.live, []⟩ else dk0
set_option maxRecDepth 100000 in
set_option maxHeartbeats 2000000 in
theorem impl_Sync {v : Value} {d : DK} (w : World) (h : DkRow w v d) (hl : DkLil d) :
    Calls Try.prog 17 #[v] w fun e w' => ∃ v', e = .returned v' ∧ DkOwn w' w.heap.size v' (syD d) ∧ Below w.heap.size w w' := by
  have HR : Hid (DkRow w v d) := h
  have HL : Hid (DkLil d) := hl
  obtain ⟨A1, c1, A2, c2, A3, c3, rfl, r1, r2, r3, z1, z2, z3⟩ := h
  have HR1 : Hid (FiRow w A1 d.live) := r1
  have HZ1 : Hid (A1 = none → c1 = 0) := z1
  obtain ⟨n1, HN1⟩ : ∃ n1, Hid (d.live.length = n1) := ⟨_, rfl⟩
  obtain ⟨n2, HN2⟩ : ∃ n2, Hid (d.safe.length = n2) := ⟨_, rfl⟩
  obtain ⟨n3, HN3⟩ : ∃ n3, Hid (d.ops.length = n3) := ⟨_, rfl⟩
  have hn1 : n1 ≤ 1048576 := by rw [← HN1.out]; exact hl.n1
  rw [HN1.out, HN2.out, HN3.out] at HR ⊢
  obtain ⟨rr, HRR⟩ : ∃ rr, Hid (diskB d = rr) := ⟨_, rfl⟩
  clear r1 r2 r3 z1 z2 z3 hl
  cases rr
  · have HE : Hid (syD d = dk0) := by show _ = _; rw [syD, HRR.out]; rfl
    rw [HE.out]
    go_enter Try.func17, Try.ntmps17
    go_wp2_with fail
    refine (impl_DiskOk _ (HR.out.below (by go_grown)) HL.out).mono ?_
    rintro e w1 ⟨rfl, hb⟩
    rw [HRR.out]
    have p0 := cy hb (b := w.heap.size + 1) (o := 0) (x := .slice none 0 0) (by go_simp)
    have p1 := cy hb (b := w.heap.size + 1) (o := 1) (x := .slice none 0 0) (by go_simp)
    have p2 := cy hb (b := w.heap.size + 1) (o := 2) (x := .slice none 0 0) (by go_simp)
    have pf : ∀ o, w1.frozen? ⟨w.heap.size + 1, o, none⟩ = false := fun o => by
      rw [hb.frozen (p := ⟨w.heap.size + 1, o, none⟩) (by simp)]
      go_simp
    have HB1 : Hid (Below w.heap.size w w1) := Below.trans (by go_grown) (hb.mono (by simp; omega))
    clear hb
    go_wp2_with fail
    refine bodyPost_ret (v := .agg #[.slice none 0 0, .slice none 0 0, .slice none 0 0]) ?_ rfl ⟨_, rfl, own_dk0, ?_⟩
    · simp (maxDischargeDepth := 9) [results, Try.results17, go_sem, *]
    · exact ((HB1.out.setCell (by show w.heap.size ≤ w.heap.size + 1; omega) _).setCell (by show w.heap.size ≤ w.heap.size + 1; omega) _).setCell (by show w.heap.size ≤ w.heap.size + 1; omega) _
  · have HE : Hid (syD d = ⟨d.live, d.live, []⟩) := by show _ = _; rw [syD, HRR.out]; rfl
    rw [HE.out]
    go_enter Try.func17, Try.ntmps17
    go_wp2_with fail
    refine (impl_DiskOk _ (HR.out.below (by go_grown)) HL.out).mono ?_
    rintro e w1 ⟨rfl, hb⟩
    rw [HRR.out]
    have k0 := cy hb (b := w.heap.size) (o := 0) (x := .slice A1 n1 c1) (by go_simp)
    have p0 := cy hb (b := w.heap.size + 1) (o := 0) (x := .slice none 0 0) (by go_simp)
    have p1 := cy hb (b := w.heap.size + 1) (o := 1) (x := .slice none 0 0) (by go_simp)
    have p2 := cy hb (b := w.heap.size + 1) (o := 2) (x := .slice none 0 0) (by go_simp)
    have pf : ∀ o, w1.frozen? ⟨w.heap.size + 1, o, none⟩ = false := fun o => by
      rw [hb.frozen (p := ⟨w.heap.size + 1, o, none⟩) (by simp)]
      go_simp
    have HB1 : Hid (Below w.heap.size w w1) := Below.trans (by go_grown) (hb.mono (by simp; omega))
    have hz1 : w.heap.size + 2 ≤ w1.heap.size := by simpa using hb.size
    clear hb
    go_wp2_with fail
    refine (impl_synced _ (HR1.out.below HB1.out) HN1.out HZ1.out (by omega)).mono ?_
    rintro e w2 ⟨v2, rfl, ho2, hb⟩
    obtain ⟨e1, e2, e3, f1, f2, f3, j1, j2, j3, rfl⟩ := ho2.row.agg
    have HO : Hid (DkOwn w2 (w.heap.size + 2) (.agg #[.slice e1 j1 f1, .slice e2 j2 f2, .slice e3 j3 f3]) ⟨d.live, d.live, []⟩) := ho2.mono hz1
    replace p0 := cy hb p0
    replace p1 := cy hb p1
    replace p2 := cy hb p2
    replace pf : ∀ o, w2.frozen? ⟨w.heap.size + 1, o, none⟩ = false := fun o => by
      rw [hb.frozen (p := ⟨w.heap.size + 1, o, none⟩) (by show w.heap.size + 1 < w1.heap.size; omega)]
      exact pf o
    have HB2 : Hid (Below w.heap.size w w2) := bchain HB1.out hb
    have m2 : w.heap.size + 1 < w2.heap.size := World.block_lt_of_cell? w2 ⟨w.heap.size + 1, 0, none⟩ p0
    clear hb ho2
    go_wp2_with fail
    refine bodyPost_ret (v := .agg #[.slice e1 j1 f1, .slice e2 j2 f2, .slice e3 j3 f3]) ?_ rfl ⟨_, rfl, ?_, ?_⟩
    · simp (maxDischargeDepth := 9) [results, Try.results17, go_sem, *]
    · exact (((HO.out.set (by omega) _ _).set (by omega) _ _).set (by omega) _ _).mono (by omega)
    · exact ((HB2.out.setCell (by show w.heap.size ≤ w.heap.size + 1; omega) _).setCell (by show w.heap.size ≤ w.heap.size + 1; omega) _).setCell (by show w.heap.size ≤ w.heap.size + 1; omega) _
end Go.Proofs.Ytanjlpgdmnapdaa
