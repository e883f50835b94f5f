import Derived.Test.YtagmmlipaihilaaAreaN
import Derived.Test.YtagmmlipaihilaaDrawH
import Derived.Test.YtagmmlipaihilaaOpenB
import Derived.Deep.DeepCutAuto
import Derived.Deep.RegionWith
namespace Go.Proofs.Ytagmmlipaihilaa
open Go.RowKit

/-- Of the first t cells those that are counted. -/
def cntB (a b x y z u : Int) (nc t : Nat) : Nat := if areaOkB x y z u then cntC a b x y z u nc t else 0
theorem cntB_succ (a b x y z u : Int) (nc t : Nat) : cntB a b x y z u nc (t + 1) = cntB a b x y z u nc t + (if areaOkB x y z u && inA (a + ((t % nc : Nat) : Int)) (b + ((t / nc : Nat) : Int)) x y z u then 1 else 0) := by
  unfold cntB
  cases areaOkB x y z u
  · rfl
  · simp only [if_true, cntC, Bool.true_and, inA, decide_eq_true_eq]
    congr 1
    by_cases h : (x ≤ a + ((t % nc : Nat) : Int) ∧ a + ((t % nc : Nat) : Int) ≤ z) ∧ (y ≤ b + ((t / nc : Nat) : Int) ∧ b + ((t / nc : Nat) : Int) ≤ u)
    · rw [if_pos h, if_pos ⟨h.1.1, h.1.2, h.2.1, h.2.2⟩]
    · rw [if_neg h, if_neg (fun e => h ⟨⟨e.1, e.2.1⟩, e.2.2.1, e.2.2.2⟩)]
theorem cntB_le (a b x y z u : Int) (nc t : Nat) : cntB a b x y z u nc t ≤ t := by
  unfold cntB
  split
  · exact cntC_le _ _ _ _ _ _ _ _
  · omega
/-- What two areas have in common, as the program answers it, and how many cells it has. -/
theorem com_facts (a b c d x y z u : Int) : ∃ P Q R T ok, comV a b c d x y z u = .tuple #[.agg #[.int .i64 P, .int .i64 Q, .int .i64 R, .int .i64 T], .bool ok] ∧
    (areaOkB a b c d = true → manyOf P Q R T = cntB a b x y z u (c - a + 1).toNat (manyOf a b c d) ∧ ok = decide (0 < cntB a b x y z u (c - a + 1).toNat (manyOf a b c d))) := by
  refine ⟨_, _, _, _, _, rfl, fun h => ?_⟩
  cases h' : areaOkB x y z u
  · have hc : comOk a b c d x y z u = false := by simp [comOk, h']
    rw [hc]
    simp only [sel_false, cntB, h']
    exact ⟨by rw [if_neg (by decide)]; decide +kernel, by rw [if_neg (by decide)]; rfl⟩
  · have e : cntB a b x y z u (c - a + 1).toNat (manyOf a b c d) = cntC a b x y z u (c - a + 1).toNat (manyOf a b c d) := by simp [cntB, h']
    rw [e]
    have hh := cnt_common h h'
    exact ⟨hh.1.symm, hh.2⟩
theorem com_many (P Q R T : Int) : ∀ w : World, Calls Try.prog 12 #[.agg #[.int .i64 P, .int .i64 Q, .int .i64 R, .int .i64 T]] w fun e w' => ∃ A cap, e = .returned (.slice A (manyOf P Q R T) cap) ∧ Below w.heap.size w w' := fun w =>
  (impl_CellsOf P Q R T w).mono fun e w' ⟨v, he, ho, hb⟩ => by
    obtain ⟨A, cap, rfl, _⟩ := own_shape ho
    exact ⟨A, cap, he, hb⟩
theorem carry4X {B : Nat} {X w' : World} {p : Nat} {x0 x1 x2 x3 : Value} (hk : Below B X w') (hp : p < B) (c0 : X.cell? ⟨p, 0, none⟩ = some x0) (c1 : X.cell? ⟨p, 1, none⟩ = some x1) (c2 : X.cell? ⟨p, 2, none⟩ = some x2) (c3 : X.cell? ⟨p, 3, none⟩ = some x3) :
    w'.cell? ⟨p, 0, none⟩ = some x0 ∧ w'.cell? ⟨p, 1, none⟩ = some x1 ∧ w'.cell? ⟨p, 2, none⟩ = some x2 ∧ w'.cell? ⟨p, 3, none⟩ = some x3 :=
  ⟨(hk.cell (p := ⟨p, 0, none⟩) hp).trans c0, (hk.cell (p := ⟨p, 1, none⟩) hp).trans c1, (hk.cell (p := ⟨p, 2, none⟩) hp).trans c2, (hk.cell (p := ⟨p, 3, none⟩) hp).trans c3⟩

set_option maxRecDepth 100000 in
set_option maxHeartbeats 8000000 in
theorem law_FnAreas (A : Option Addr) (len cap : Nat) (w : World) (hz : Co w A len) : Calls Try.prog 3 #[.slice A len cap] w fun e w' =>
    e = .returned (.bool true) ∧ Below w.heap.size w w' := by
  by_cases hbig : (1048576 : Int) < (len : Int)
  · go_enter Try.func3, Try.ntmps3
    go_wp2_with fail
    refine (laws_big A len cap _).mono ?_
    rintro e wq ⟨rfl, hw⟩
    subst wq
    go_wp2_with fail
    go_ret
    exact ⟨rfl, by go_grown⟩
  have HC : Hid (Cd w A len) := ⟨by omega, hz.2⟩
  clear hz
  go_enter Try.func3, Try.ntmps3
  go_wp2_with fail
  refine (laws_big A len cap _).mono ?_
  rintro e wq ⟨rfl, hw⟩
  subst wq
  go_wp2_with fail
  refine (draw_common A len cap _ (HC.out.below (by go_grown))).mono ?_
  rintro e w1 ⟨a, b, c, d, x, y, z, u, rfl, hk1⟩
  have HK1 : Hid (Below w.heap.size w w1) := hk1
  clear hk1 HC
  obtain ⟨P, Q, R, T, ok, hv, hf⟩ := com_facts a b c d x y z u
  have HV : Hid (comV a b c d x y z u = .tuple #[.agg #[.int .i64 P, .int .i64 Q, .int .i64 R, .int .i64 T], .bool ok]) := hv
  have HF : Hid (areaOkB a b c d = true → manyOf P Q R T = cntB a b x y z u (c - a + 1).toNat (manyOf a b c d) ∧ ok = decide (0 < cntB a b x y z u (c - a + 1).toNat (manyOf a b c d))) := hf
  have HX : Hid (∀ j, j < manyOf a b c d * 2 → ∃ z, (cellsX a b (c - a + 1).toNat (manyOf a b c d))[j]? = some (.int .i64 z)) := cellsX_int _ _ _ _
  clear hv hf
  go_wp2_with fail
  refine (impl_CellsOf a b c d _).mono ?_
  rintro e u1 ⟨v, rfl, ho, hb⟩
  obtain ⟨A', cap', rfl, _, _⟩ := own_shape ho
  have O1 : Hid (u1.ownsRow (w1.heap.size + 2) 25 2 (.slice A' (manyOf a b c d) cap') (manyOf a b c d) (cellsX a b (c - a + 1).toNat (manyOf a b c d))) := own_mono ho (by simp)
  obtain ⟨a0, a1, a2, a3⟩ := carry4 (p := w1.heap.size) (x0 := .int .i64 a) (x1 := .int .i64 b) (x2 := .int .i64 c) (x3 := .int .i64 d) hb (by simp) (by simp) (by simp) (by simp)
  obtain ⟨b0, b1, b2, b3⟩ := carry4 (p := w1.heap.size + 1) (x0 := .int .i64 x) (x1 := .int .i64 y) (x2 := .int .i64 z) (x3 := .int .i64 u) hb (by simp) (by simp) (by simp) (by simp)
  have s1 : w1.heap.size + 2 ≤ u1.heap.size := Nat.le_trans (by go_size) hb.size
  have K1 : Hid (Below w.heap.size w u1) := bchain (by have hk := HK1.out; have := hk.size; go_grown) hb
  clear hb ho
  go_wp2_with fail
  refine (impl_Common a b c d x y z u _).mono ?_
  rintro e u2 ⟨rfl, hb⟩
  rw [HV.out]
  have O2 : Hid (u2.ownsRow (w1.heap.size + 2) 25 2 (.slice A' (manyOf a b c d) cap') (manyOf a b c d) (cellsX a b (c - a + 1).toNat (manyOf a b c d))) := own_below O1.out hb
  obtain ⟨a0, a1, a2, a3⟩ := carry4 hb a0 a1 a2 a3
  obtain ⟨b0, b1, b2, b3⟩ := carry4 hb b0 b1 b2 b3
  have s2 := hb.size
  have K2 : Hid (Below w.heap.size w u2) := bchain K1.out hb
  clear hb O1
  have q1 : w1.heap.size < u2.heap.size := by omega
  have q2 : w1.heap.size + 1 < u2.heap.size := by omega
  go_wp2_with fail
  refine (spec_Common a b c d x y z u _).mono ?_
  rintro e u3 ⟨rfl, hb⟩
  rw [HV.out]
  have ba : Below u2.heap.size u2 (u2.alloc (.cells #[.int .i64 P, .int .i64 Q, .int .i64 R, .int .i64 T] 27)) := (Below.refl _ _).alloc (Nat.le_refl _) _
  have O3 : Hid (u3.ownsRow (w1.heap.size + 2) 25 2 (.slice A' (manyOf a b c d) cap') (manyOf a b c d) (cellsX a b (c - a + 1).toNat (manyOf a b c d))) := own_below (own_below O2.out ba) hb
  obtain ⟨a0, a1, a2, a3⟩ := carry4 ba a0 a1 a2 a3
  obtain ⟨b0, b1, b2, b3⟩ := carry4 ba b0 b1 b2 b3
  obtain ⟨a0, a1, a2, a3⟩ := carry4 hb a0 a1 a2 a3
  obtain ⟨b0, b1, b2, b3⟩ := carry4 hb b0 b1 b2 b3
  obtain ⟨c0, c1, c2, c3⟩ := carry4 (p := u2.heap.size) (x0 := .int .i64 P) (x1 := .int .i64 Q) (x2 := .int .i64 R) (x3 := .int .i64 T) hb (by simp) (by simp) (by simp) (by simp)
  have s3 : u2.heap.size + 1 ≤ u3.heap.size := Nat.le_trans (by go_size) hb.size
  have K3 : Hid (Below w.heap.size w u3) := bchain (K2.out.alloc K2.out.size _) hb
  clear hb ba O2
  have r1 : w1.heap.size < u3.heap.size := by omega
  have r2 : w1.heap.size + 1 < u3.heap.size := by omega
  have r3 : u2.heap.size < u3.heap.size := by omega
  have r4 : w1.heap.size < u3.heap.size + 1 := by omega
  have r5 : w1.heap.size + 1 < u3.heap.size + 1 := by omega
  have r6 : u2.heap.size < u3.heap.size + 1 := by omega
  have O4 : Hid ((u3.alloc (.cells #[.int .i64 P, .int .i64 Q, .int .i64 R, .int .i64 T] 27)).ownsRow (w1.heap.size + 2) 25 2 (.slice A' (manyOf a b c d) cap') (manyOf a b c d) (cellsX a b (c - a + 1).toNat (manyOf a b c d))) := O3.out.alloc _
  have K4 : Hid (Below w.heap.size w (u3.alloc (.cells #[.int .i64 P, .int .i64 Q, .int .i64 R, .int .i64 T] 27))) := K3.out.alloc K3.out.size _
  clear q1 q2 s1 s2 s3
  cases ho : areaOkB a b c d
  · have HO : Hid (areaOkB a b c d = false) := ho
    have hm : ((manyOf a b c d : Nat) : Int) = 0 := by simp [manyOf, ho]
    clear ho
    go_wp2_with fail
    go_region_held3 (fun w' => (∀ bq oq, bq < u3.heap.size + 1 → w'.cell? ⟨bq, oq, none⟩ = (u3.alloc (.cells #[.int .i64 P, .int .i64 Q, .int .i64 R, .int .i64 T] 27)).cell? ⟨bq, oq, none⟩) ∧ u3.heap.size + 1 ≤ w'.heap.size ∧ Below (u3.heap.size + 1) (u3.alloc (.cells #[.int .i64 P, .int .i64 Q, .int .i64 R, .int .i64 T] 27)) w')
      (exact sc_of (by go_size) (by go_grown))
      (first
      | (go_at_call 16; refine (spec_CellsOf a b c d _).mono ?_; rintro e wr ⟨vs, rfl, ho, hb⟩; have OS : Hid (wr.ownsRow 0 25 2 vs (manyOf a b c d) (cellsX a b (c - a + 1).toNat (manyOf a b c d))) := own_mono ho (Nat.zero_le _); clear ho; obtain ⟨hk, hz⟩ := bframe (B := u3.heap.size + 1) (X := (u3.alloc (.cells #[.int .i64 P, .int .i64 Q, .int .i64 R, .int .i64 T] 27))) (by go_grown) (by go_size) hb; have hC := fun b o h => hk.cell (p := ⟨b, o, none⟩) h; have OL : Hid (wr.ownsRow (w1.heap.size + 2) 25 2 (.slice A' (manyOf a b c d) cap') (manyOf a b c d) (cellsX a b (c - a + 1).toNat (manyOf a b c d))) := own_below O4.out (hk.mono (by simp)); clear hb)
      | (go_at_call 15; refine (laws_sameRefs _ OL.out OS.out HX.out).mono ?_; rintro e wr ⟨rfl, hb⟩; obtain ⟨hk, hz⟩ := bframe (B := u3.heap.size + 1) (X := (u3.alloc (.cells #[.int .i64 P, .int .i64 Q, .int .i64 R, .int .i64 T] 27))) (by go_grown) (by go_size) hb; have hC := fun b o h => hk.cell (p := ⟨b, o, none⟩) h; clear hb)
      | (go_at_call 17; refine (impl_AreaOk a b c d _).mono ?_; rintro e wr ⟨rfl, hb⟩; rw [HO.out]; obtain ⟨hk, hz⟩ := bframe (B := u3.heap.size + 1) (X := (u3.alloc (.cells #[.int .i64 P, .int .i64 Q, .int .i64 R, .int .i64 T] 27))) (by go_grown) (by go_size) hb; have hC := fun b o h => hk.cell (p := ⟨b, o, none⟩) h; clear hb)
      | (go_at_call 18; refine (spec_AreaOk a b c d _).mono ?_; rintro e wr ⟨rfl, hb⟩; rw [HO.out]; obtain ⟨hk, hz⟩ := bframe (B := u3.heap.size + 1) (X := (u3.alloc (.cells #[.int .i64 P, .int .i64 Q, .int .i64 R, .int .i64 T] 27))) (by go_grown) (by go_size) hb; have hC := fun b o h => hk.cell (p := ⟨b, o, none⟩) h; clear hb))
    go_wp2_with (first
      | (go_at_call 16; refine (spec_CellsOf a b c d _).mono ?_; rintro e wr ⟨vs, rfl, ho, hb⟩; have OS : Hid (wr.ownsRow 0 25 2 vs (manyOf a b c d) (cellsX a b (c - a + 1).toNat (manyOf a b c d))) := own_mono ho (Nat.zero_le _); clear ho; obtain ⟨hk, hz⟩ := bframe (B := u3.heap.size + 1) (X := (u3.alloc (.cells #[.int .i64 P, .int .i64 Q, .int .i64 R, .int .i64 T] 27))) (by go_grown) (by go_size) hb; have hC := fun b o h => hk.cell (p := ⟨b, o, none⟩) h; have OL : Hid (wr.ownsRow (w1.heap.size + 2) 25 2 (.slice A' (manyOf a b c d) cap') (manyOf a b c d) (cellsX a b (c - a + 1).toNat (manyOf a b c d))) := own_below O4.out (hk.mono (by simp)); clear hb)
      | (go_at_call 15; refine (laws_sameRefs _ OL.out OS.out HX.out).mono ?_; rintro e wr ⟨rfl, hb⟩; obtain ⟨hk, hz⟩ := bframe (B := u3.heap.size + 1) (X := (u3.alloc (.cells #[.int .i64 P, .int .i64 Q, .int .i64 R, .int .i64 T] 27))) (by go_grown) (by go_size) hb; have hC := fun b o h => hk.cell (p := ⟨b, o, none⟩) h; clear hb))
    go_ret
    exact ⟨rfl, K4.out.trans (Below.mono (by go_grown) (Nat.le_trans K3.out.size (by omega)))⟩
  · have HO : Hid (areaOkB a b c d = true) := ho
    obtain ⟨hmany, hok⟩ := HF.out ho
    subst hok
    have HMY : Hid (manyOf P Q R T = cntB a b x y z u (c - a + 1).toNat (manyOf a b c d)) := hmany
    have hA : 1 ≤ a ∧ a ≤ c ∧ c ≤ 52 ∧ 1 ≤ b ∧ b ≤ d ∧ d ≤ 99 := by
      have hq := ho
      simp only [areaOkB, refOkB, Bool.and_eq_true, decide_eq_true_eq] at hq
      omega
    have hn : IntKind.i64.wrap ((c - a + 1) * (d - b + 1)) = ((manyOf a b c d : Nat) : Int) := by
      have e : ((manyOf a b c d : Nat) : Int) = (c - a + 1) * (d - b + 1) := by
        have e1 : manyOf a b c d = (c - a + 1).toNat * (d - b + 1).toNat := by rw [manyOf, ho]; rfl
        rw [e1, Int.natCast_mul, Int.toNat_of_nonneg (by omega), Int.toNat_of_nonneg (by omega)]
      rw [← e, IntKind.wrap_i64]
      have := manyOf_le a b c d
      omega
    have HIN : Hid (∀ t, t < manyOf a b c d → inA (a + ((t % (c - a + 1).toNat : Nat) : Int)) (b + ((t / (c - a + 1).toNat : Nat) : Int)) a b c d = true) := fun t ht => by
      obtain ⟨h1, h2, h3, h4⟩ := cell_in ho ht
      simp only [inA, decide_eq_true_eq]
      exact ⟨h1, h2, h3, h4⟩
    have HCE : Hid (∀ t, t < manyOf a b c d → ∃ g p q, A' = some ⟨g, 0, none⟩ ∧ g < u3.heap.size ∧ u3.cell? ⟨g, t * 2, none⟩ = some (.int .i64 p) ∧ u3.cell? ⟨g, t * 2 + 1, none⟩ = some (.int .i64 q) ∧ inA p q a b c d = true ∧
        cntB a b x y z u (c - a + 1).toNat (t + 1) = cntB a b x y z u (c - a + 1).toNat t + (if areaOkB x y z u && inA p q x y z u then 1 else 0)) := fun t ht => by
      obtain ⟨A2, cap2, e, _, hc⟩ := own_shape O3.out
      cases e
      obtain ⟨g, rfl, _, hg, c0', _⟩ := hc (t * 2) (by omega)
      obtain ⟨g', e', _, _, c1', _⟩ := hc (t * 2 + 1) (by omega)
      cases e'
      obtain ⟨x0, x1⟩ := cellsX_get a b (c - a + 1).toNat ht
      exact ⟨g, _, _, rfl, hg, c0'.trans x0, c1'.trans x1, HIN.out t ht, cntB_succ _ _ _ _ _ _ _ _⟩
    have HML : Hid (manyOf a b c d ≤ 10000) := manyOf_le a b c d
    obtain ⟨A1, A2, A3, A4, A5, A6⟩ := hA
    clear ho hmany HF
    go_wp2_with fail
    go_region_held3 (fun w' => (∀ bq oq, bq < u3.heap.size + 1 → w'.cell? ⟨bq, oq, none⟩ = (u3.alloc (.cells #[.int .i64 P, .int .i64 Q, .int .i64 R, .int .i64 T] 27)).cell? ⟨bq, oq, none⟩) ∧ u3.heap.size + 1 ≤ w'.heap.size ∧ Below (u3.heap.size + 1) (u3.alloc (.cells #[.int .i64 P, .int .i64 Q, .int .i64 R, .int .i64 T] 27)) w')
      (exact sc_of (by go_size) (by go_grown))
      (first
      | (go_at_call 16; refine (spec_CellsOf a b c d _).mono ?_; rintro e wr ⟨vs, rfl, ho, hb⟩; have OS : Hid (wr.ownsRow 0 25 2 vs (manyOf a b c d) (cellsX a b (c - a + 1).toNat (manyOf a b c d))) := own_mono ho (Nat.zero_le _); clear ho; obtain ⟨hk, hz⟩ := bframe (B := u3.heap.size + 1) (X := (u3.alloc (.cells #[.int .i64 P, .int .i64 Q, .int .i64 R, .int .i64 T] 27))) (by go_grown) (by go_size) hb; have hC := fun b o h => hk.cell (p := ⟨b, o, none⟩) h; have OL : Hid (wr.ownsRow (w1.heap.size + 2) 25 2 (.slice A' (manyOf a b c d) cap') (manyOf a b c d) (cellsX a b (c - a + 1).toNat (manyOf a b c d))) := own_below O4.out (hk.mono (by simp)); clear hb)
      | (go_at_call 15; refine (laws_sameRefs _ OL.out OS.out HX.out).mono ?_; rintro e wr ⟨rfl, hb⟩; obtain ⟨hk, hz⟩ := bframe (B := u3.heap.size + 1) (X := (u3.alloc (.cells #[.int .i64 P, .int .i64 Q, .int .i64 R, .int .i64 T] 27))) (by go_grown) (by go_size) hb; have hC := fun b o h => hk.cell (p := ⟨b, o, none⟩) h; clear hb)
      | (go_at_call 17; refine (impl_AreaOk a b c d _).mono ?_; rintro e wr ⟨rfl, hb⟩; rw [HO.out]; obtain ⟨hk, hz⟩ := bframe (B := u3.heap.size + 1) (X := (u3.alloc (.cells #[.int .i64 P, .int .i64 Q, .int .i64 R, .int .i64 T] 27))) (by go_grown) (by go_size) hb; have hC := fun b o h => hk.cell (p := ⟨b, o, none⟩) h; clear hb)
      | (go_at_call 18; refine (spec_AreaOk a b c d _).mono ?_; rintro e wr ⟨rfl, hb⟩; rw [HO.out]; obtain ⟨hk, hz⟩ := bframe (B := u3.heap.size + 1) (X := (u3.alloc (.cells #[.int .i64 P, .int .i64 Q, .int .i64 R, .int .i64 T] 27))) (by go_grown) (by go_size) hb; have hC := fun b o h => hk.cell (p := ⟨b, o, none⟩) h; clear hb))
    go_wp2_with fail
    go_loopw [10, 11] (fun m i wr => ∃ t : Nat, t ≤ manyOf a b c d ∧ i = .int .i64 t ∧ m = .int .i64 ((cntB a b x y z u (c - a + 1).toNat t : Nat) : Int) ∧ Below (u3.heap.size + 1) (u3.alloc (.cells #[.int .i64 P, .int .i64 Q, .int .i64 R, .int .i64 T] 27)) wr ∧ u3.heap.size + 1 ≤ wr.heap.size) (fun _ i _ => manyOf a b c d - (intOf i).toNat)
    case atStart => exact ⟨0, Nat.zero_le _, rfl, by simp [cntB, cntC], by go_grown, by go_size⟩
    case round =>
      obtain ⟨t, ht, rfl, rfl, hbel, hsz⟩ := hrel
      have hW := fun b o h => hbel.cell (p := ⟨b, o, none⟩) h
      have HCL : Hid (cntB a b x y z u (c - a + 1).toNat t ≤ t) := cntB_le _ _ _ _ _ _ _ _
      have hcl : ((cntB a b x y z u (c - a + 1).toNat t : Nat) : Int) ≤ 10000 := by have := HCL.out; have := HML.out; omega
      by_cases hlt : t < manyOf a b c d
      · have q0 : (0 : Int) ≤ (t : Int) := by omega
        have q1 : (t : Int) < ((manyOf a b c d : Nat) : Int) := by omega
        obtain ⟨g, p, q, rfl, hg, e0, e1, hi', hcs⟩ := HCE.out t hlt
        have hg' : g < u3.heap.size + 1 := by omega
        have hg2 : ¬ u3.heap.size = g := by omega
        have HI : Hid (inA p q a b c d = true) := hi'
        have HCS : Hid (cntB a b x y z u (c - a + 1).toNat (t + 1) = cntB a b x y z u (c - a + 1).toNat t + (if areaOkB x y z u && inA p q x y z u then 1 else 0)) := hcs
        clear hi' hcs
        have hm1 : ((manyOf a b c d : Nat) : Int) ≤ 10000 := by have := HML.out; omega
        cases hb : areaOkB x y z u
        · have HB : Hid (areaOkB x y z u = false) := hb
          clear hb
          go_wp2_with fail
          go_region_held3 (fun w' => (∀ bq oq, bq < u3.heap.size + 1 → w'.cell? ⟨bq, oq, none⟩ = (u3.alloc (.cells #[.int .i64 P, .int .i64 Q, .int .i64 R, .int .i64 T] 27)).cell? ⟨bq, oq, none⟩) ∧ u3.heap.size + 1 ≤ w'.heap.size ∧ Below (u3.heap.size + 1) (u3.alloc (.cells #[.int .i64 P, .int .i64 Q, .int .i64 R, .int .i64 T] 27)) w')
            (exact sc_of (by go_size) (by go_grown))
            (first
            | (go_at_call 19; refine (laws_within _ _ _ _ _ _ _).mono ?_; rintro e wr ⟨rfl, hb⟩; rw [HI.out]; obtain ⟨hk, hz⟩ := bframe (B := u3.heap.size + 1) (X := (u3.alloc (.cells #[.int .i64 P, .int .i64 Q, .int .i64 R, .int .i64 T] 27))) (by go_grown) (by go_size) hb; have hC := fun b o h => hk.cell (p := ⟨b, o, none⟩) h; clear hb))
          go_wp2_with fail
          first
          | (go_region_with (first
            | (go_at_call 17; refine (impl_AreaOk x y z u _).mono ?_; rintro e wr ⟨rfl, hb⟩; rw [HB.out]; obtain ⟨hk, hz⟩ := bframe (B := u3.heap.size + 1) (X := (u3.alloc (.cells #[.int .i64 P, .int .i64 Q, .int .i64 R, .int .i64 T] 27))) (by go_grown) (by go_size) hb; have hC := fun b o h => hk.cell (p := ⟨b, o, none⟩) h; clear hb)))
          | fail
          all_goals go_wp2_with fail
          all_goals
            go_roundw
            case rel => exact ⟨t + 1, by omega, by go_num, by rw [HCS.out, HB.out]; simp, by go_grown, by go_size⟩
            case measure => simp [intOf]; omega
        · have HB : Hid (areaOkB x y z u = true) := hb
          clear hb
          cases hj : inA p q x y z u
          · have HJ : Hid (inA p q x y z u = false) := hj
            clear hj
            go_wp2_with fail
            go_region_held3 (fun w' => (∀ bq oq, bq < u3.heap.size + 1 → w'.cell? ⟨bq, oq, none⟩ = (u3.alloc (.cells #[.int .i64 P, .int .i64 Q, .int .i64 R, .int .i64 T] 27)).cell? ⟨bq, oq, none⟩) ∧ u3.heap.size + 1 ≤ w'.heap.size ∧ Below (u3.heap.size + 1) (u3.alloc (.cells #[.int .i64 P, .int .i64 Q, .int .i64 R, .int .i64 T] 27)) w')
              (exact sc_of (by go_size) (by go_grown))
              (first
              | (go_at_call 19; refine (laws_within _ _ _ _ _ _ _).mono ?_; rintro e wr ⟨rfl, hb⟩; rw [HI.out]; obtain ⟨hk, hz⟩ := bframe (B := u3.heap.size + 1) (X := (u3.alloc (.cells #[.int .i64 P, .int .i64 Q, .int .i64 R, .int .i64 T] 27))) (by go_grown) (by go_size) hb; have hC := fun b o h => hk.cell (p := ⟨b, o, none⟩) h; clear hb))
            go_wp2_with fail
            first
            | (go_region_held3 (fun w' => (∀ bq oq, bq < u3.heap.size + 1 → w'.cell? ⟨bq, oq, none⟩ = (u3.alloc (.cells #[.int .i64 P, .int .i64 Q, .int .i64 R, .int .i64 T] 27)).cell? ⟨bq, oq, none⟩) ∧ u3.heap.size + 1 ≤ w'.heap.size ∧ Below (u3.heap.size + 1) (u3.alloc (.cells #[.int .i64 P, .int .i64 Q, .int .i64 R, .int .i64 T] 27)) w') (exact sc_of (by go_size) (by go_grown)) (first | (go_at_call 19; refine (laws_within _ _ _ _ _ _ _).mono ?_; rintro e wr ⟨rfl, hb⟩; rw [HJ.out]; obtain ⟨hk, hz⟩ := bframe (B := u3.heap.size + 1) (X := (u3.alloc (.cells #[.int .i64 P, .int .i64 Q, .int .i64 R, .int .i64 T] 27))) (by go_grown) (by go_size) hb; have hC := fun b o h => hk.cell (p := ⟨b, o, none⟩) h; clear hb) | (go_at_call 17; refine (impl_AreaOk x y z u _).mono ?_; rintro e wr ⟨rfl, hb⟩; rw [HB.out]; obtain ⟨hk, hz⟩ := bframe (B := u3.heap.size + 1) (X := (u3.alloc (.cells #[.int .i64 P, .int .i64 Q, .int .i64 R, .int .i64 T] 27))) (by go_grown) (by go_size) hb; have hC := fun b o h => hk.cell (p := ⟨b, o, none⟩) h; clear hb)))
            | fail
            go_wp2_with fail
            go_roundw
            case rel => exact ⟨t + 1, by omega, by go_num, by rw [HCS.out, HB.out, HJ.out]; simp, by go_grown, by go_size⟩
            case measure => simp [intOf]; omega
          · have HJ : Hid (inA p q x y z u = true) := hj
            clear hj
            go_wp2_with fail
            go_region_held3 (fun w' => (∀ bq oq, bq < u3.heap.size + 1 → w'.cell? ⟨bq, oq, none⟩ = (u3.alloc (.cells #[.int .i64 P, .int .i64 Q, .int .i64 R, .int .i64 T] 27)).cell? ⟨bq, oq, none⟩) ∧ u3.heap.size + 1 ≤ w'.heap.size ∧ Below (u3.heap.size + 1) (u3.alloc (.cells #[.int .i64 P, .int .i64 Q, .int .i64 R, .int .i64 T] 27)) w')
              (exact sc_of (by go_size) (by go_grown))
              (first
              | (go_at_call 19; refine (laws_within _ _ _ _ _ _ _).mono ?_; rintro e wr ⟨rfl, hb⟩; rw [HI.out]; obtain ⟨hk, hz⟩ := bframe (B := u3.heap.size + 1) (X := (u3.alloc (.cells #[.int .i64 P, .int .i64 Q, .int .i64 R, .int .i64 T] 27))) (by go_grown) (by go_size) hb; have hC := fun b o h => hk.cell (p := ⟨b, o, none⟩) h; clear hb))
            go_wp2_with fail
            first
            | (go_region_held3 (fun w' => (∀ bq oq, bq < u3.heap.size + 1 → w'.cell? ⟨bq, oq, none⟩ = (u3.alloc (.cells #[.int .i64 P, .int .i64 Q, .int .i64 R, .int .i64 T] 27)).cell? ⟨bq, oq, none⟩) ∧ u3.heap.size + 1 ≤ w'.heap.size ∧ Below (u3.heap.size + 1) (u3.alloc (.cells #[.int .i64 P, .int .i64 Q, .int .i64 R, .int .i64 T] 27)) w') (exact sc_of (by go_size) (by go_grown)) (first | (go_at_call 19; refine (laws_within _ _ _ _ _ _ _).mono ?_; rintro e wr ⟨rfl, hb⟩; rw [HJ.out]; obtain ⟨hk, hz⟩ := bframe (B := u3.heap.size + 1) (X := (u3.alloc (.cells #[.int .i64 P, .int .i64 Q, .int .i64 R, .int .i64 T] 27))) (by go_grown) (by go_size) hb; have hC := fun b o h => hk.cell (p := ⟨b, o, none⟩) h; clear hb) | (go_at_call 17; refine (impl_AreaOk x y z u _).mono ?_; rintro e wr ⟨rfl, hb⟩; rw [HB.out]; obtain ⟨hk, hz⟩ := bframe (B := u3.heap.size + 1) (X := (u3.alloc (.cells #[.int .i64 P, .int .i64 Q, .int .i64 R, .int .i64 T] 27))) (by go_grown) (by go_size) hb; have hC := fun b o h => hk.cell (p := ⟨b, o, none⟩) h; clear hb)))
            | fail
            go_wp2_with fail
            go_roundw
            case rel => exact ⟨t + 1, by omega, by go_num, by rw [HCS.out, HB.out, HJ.out]; simp, by go_grown, by go_size⟩
            case measure => simp [intOf]; omega
      · have q1 : ¬ (t : Int) < ((manyOf a b c d : Nat) : Int) := by omega
        obtain rfl : t = manyOf a b c d := by omega
        go_wp2_with (first
          | (go_at_call 12; refine (com_many P Q R T _).mono ?_; rintro e wr ⟨Ac, cc, rfl, hb⟩; rw [HMY.out]; have hk := hbel.trans (hb.mono hsz); clear hb))
        all_goals go_ret
        all_goals exact ⟨rfl, K4.out.trans (hk.mono (Nat.le_trans K3.out.size (by omega)))⟩
end Go.Proofs.Ytagmmlipaihilaa
