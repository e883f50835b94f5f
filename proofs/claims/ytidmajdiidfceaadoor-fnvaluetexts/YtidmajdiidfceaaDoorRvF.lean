import Derived.Test.YtidmajdiidfceaaDoorRvD
namespace Go.Proofs.YtidmajdiidfceaaDoor
open Go.RowKit
set_option linter.unusedSimpArgs false
set_option linter.unusedVariables false

/-- The last of the first errors whose text this is; 0: none. -/
def efd (s : ByteArray) : Nat → Int
  | 0 => 0
  | k + 1 => if erT (k : Int) = s then (k : Int) else efd s k
theorem efd_le (s : ByteArray) : ∀ k, 0 ≤ efd s k ∧ efd s k ≤ (k : Int)
  | 0 => by rw [efd]; omega
  | k + 1 => by have := efd_le s k; rw [efd]; split <;> omega
theorem efd_one (s : ByteArray) : efd s 1 = 0 := by
  show (if erT ((0 : Nat) : Int) = s then ((0 : Nat) : Int) else efd s 0) = 0
  split <;> rfl

set_option maxHeartbeats 4000000 in
theorem srv_err (s : ByteArray) (w : World) (hs : s.size ≤ 281474976710656) (h : 0 < s.size) (h39 : s[0].toNat ≠ 39) (hT : s ≠ ⟨#[84, 82, 85, 69]⟩) (hF : s ≠ ⟨#[70, 65, 76, 83, 69]⟩) (h35 : s[0].toNat = 35) : Calls Tryd.prog 29 #[.string s] w fun e w' => e = .returned (rvB 4 (efd s 6) ⟨#[]⟩) ∧ Below w.heap.size w w' := by
  have z1 := ne_nil h
  have z2 := ne_nil2 h
  have h2 : (0 : Int) < (s.size : Int) := by omega
  have h1 : ¬ ((s[0].toNat : Nat) : Int) = 39 := by omega
  have h1' : (((s[0].toNat : Nat) : Int) == 39) = false := by simpa using h1
  have e10 := lit_ne (l := [84, 82, 85, 69]) hT
  have e11 := lit_ne (l := [70, 65, 76, 83, 69]) hF
  clear hT hF
  have h5 : ((s[0].toNat : Nat) : Int) = 35 := by omega
  have HE1 : Hid (efd s 1 = 0) := efd_one s
  go_enter Tryd.func29, Tryd.ntmps29
  go_wp2_with fail
  go_loopw [5] (fun i wr => ∃ k : Nat, 1 ≤ k ∧ k ≤ 6 ∧ i = .int .i64 k ∧ wr.cell? ⟨w.heap.size, 0, none⟩ = some (.int .i64 0) ∧ wr.cell? ⟨w.heap.size, 1, none⟩ = some (.int .i64 0) ∧ wr.cell? ⟨w.heap.size, 2, none⟩ = some (.string ⟨#[]⟩) ∧ wr.cell? ⟨w.heap.size + 1, 0, none⟩ = some (.int .i64 4) ∧ wr.cell? ⟨w.heap.size + 1, 1, none⟩ = some (.int .i64 (efd s k)) ∧ wr.cell? ⟨w.heap.size + 1, 2, none⟩ = some (.string ⟨#[]⟩) ∧ wr.frozen? ⟨w.heap.size, 0, none⟩ = false ∧ wr.frozen? ⟨w.heap.size, 1, none⟩ = false ∧ wr.frozen? ⟨w.heap.size, 2, none⟩ = false ∧ wr.frozen? ⟨w.heap.size + 1, 0, none⟩ = false ∧ wr.frozen? ⟨w.heap.size + 1, 1, none⟩ = false ∧ wr.frozen? ⟨w.heap.size + 1, 2, none⟩ = false ∧ Below w.heap.size w wr ∧ w.heap.size + 2 ≤ wr.heap.size) (fun i _ => 7 - (intOf i).toNat)
  case atStart =>
    refine ⟨1, by omega, by omega, rfl, ?_, ?_, ?_, ?_, ?_, ?_, ?_, ?_, ?_, ?_, ?_, ?_, by go_grown, by go_size⟩
    all_goals first
      | (rw [HE1.out]; go_simp; done)
      | (go_simp; done)
  case round =>
    clear HE1
    obtain ⟨k, hk1, hk6, rfl, c0, c1, c2, c3, c4, c5, f0, f1, f2, f3, f4, f5, hbel, hsz⟩ := hrel
    have l0 : w.heap.size < wr.heap.size := by omega
    have l1 : w.heap.size + 1 < wr.heap.size := by omega
    by_cases hlt : k ≤ 5
    · have q1 : (k : Int) ≤ 5 := by omega
      by_cases he : erT (k : Int) = s
      · have e1 := str_eq he
        have HN : Hid (efd s (k + 1) = (k : Int)) := by show efd s (k + 1) = _; rw [efd, if_pos he]
        clear he
        have HBL : Hid (Below w.heap.size w wr) := hbel
        clear hbel
        go_wp2_with fail
        refine (spec_l2Name _ _ (by omega) (by omega)).mono ?_
        rintro e w1 ⟨rfl, hb⟩
        have HB1 : Hid (Below w.heap.size w w1) := bchain HBL.out hb
        have g0 := (hb.frozen (p := ⟨w.heap.size, 0, none⟩) l0).trans f0
        have g1 := (hb.frozen (p := ⟨w.heap.size, 1, none⟩) l0).trans f1
        have g2 := (hb.frozen (p := ⟨w.heap.size, 2, none⟩) l0).trans f2
        have g3 := (hb.frozen (p := ⟨w.heap.size + 1, 0, none⟩) l1).trans f3
        have g4 := (hb.frozen (p := ⟨w.heap.size + 1, 1, none⟩) l1).trans f4
        have g5 := (hb.frozen (p := ⟨w.heap.size + 1, 2, none⟩) l1).trans f5
        have d0 := (hb.cell (p := ⟨w.heap.size, 0, none⟩) l0).trans c0
        have d1 := (hb.cell (p := ⟨w.heap.size, 1, none⟩) l0).trans c1
        have d2 := (hb.cell (p := ⟨w.heap.size, 2, none⟩) l0).trans c2
        have d3 := (hb.cell (p := ⟨w.heap.size + 1, 0, none⟩) l1).trans c3
        have d4 := (hb.cell (p := ⟨w.heap.size + 1, 1, none⟩) l1).trans c4
        have d5 := (hb.cell (p := ⟨w.heap.size + 1, 2, none⟩) l1).trans c5
        clear c0 c1 c2 c3 c4 c5
        have m0 : w.heap.size + 2 ≤ w1.heap.size := Nat.le_trans hsz hb.size
        clear hb f0 f1 f2 f3 f4 f5 l0 l1 hsz HBL
        go_wp2_with fail
        all_goals
          go_roundw
          case rel =>
            refine ⟨k + 1, by omega, by omega, by go_num, ?_, ?_, ?_, ?_, ?_, ?_, ?_, ?_, ?_, ?_, ?_, ?_, HB1.out.setCell (by simp) _, by simpa using m0⟩
            all_goals first
              | (rw [HN.out]; go_simp; done)
              | (go_simp; done)
          case measure => simp [intOf]; omega
      · have e1 := str_ne he
        have HN : Hid (efd s (k + 1) = efd s k) := by show efd s (k + 1) = _; rw [efd, if_neg he]
        clear he
        have HBL : Hid (Below w.heap.size w wr) := hbel
        clear hbel
        go_wp2_with fail
        refine (spec_l2Name _ _ (by omega) (by omega)).mono ?_
        rintro e w1 ⟨rfl, hb⟩
        have HB1 : Hid (Below w.heap.size w w1) := bchain HBL.out hb
        have g0 := (hb.frozen (p := ⟨w.heap.size, 0, none⟩) l0).trans f0
        have g1 := (hb.frozen (p := ⟨w.heap.size, 1, none⟩) l0).trans f1
        have g2 := (hb.frozen (p := ⟨w.heap.size, 2, none⟩) l0).trans f2
        have g3 := (hb.frozen (p := ⟨w.heap.size + 1, 0, none⟩) l1).trans f3
        have g4 := (hb.frozen (p := ⟨w.heap.size + 1, 1, none⟩) l1).trans f4
        have g5 := (hb.frozen (p := ⟨w.heap.size + 1, 2, none⟩) l1).trans f5
        have d0 := (hb.cell (p := ⟨w.heap.size, 0, none⟩) l0).trans c0
        have d1 := (hb.cell (p := ⟨w.heap.size, 1, none⟩) l0).trans c1
        have d2 := (hb.cell (p := ⟨w.heap.size, 2, none⟩) l0).trans c2
        have d3 := (hb.cell (p := ⟨w.heap.size + 1, 0, none⟩) l1).trans c3
        have d4 := (hb.cell (p := ⟨w.heap.size + 1, 1, none⟩) l1).trans c4
        have d5 := (hb.cell (p := ⟨w.heap.size + 1, 2, none⟩) l1).trans c5
        clear c0 c1 c2 c3 c4 c5
        have m0 : w.heap.size + 2 ≤ w1.heap.size := Nat.le_trans hsz hb.size
        clear hb f0 f1 f2 f3 f4 f5 l0 l1 hsz HBL
        go_wp2_with fail
        all_goals
          go_roundw
          case rel => exact ⟨k + 1, by omega, by omega, by go_num, d0, d1, d2, d3, by rw [HN.out]; exact d4, d5, g0, g1, g2, g3, g4, g5, HB1.out, m0⟩
          case measure => simp [intOf]; omega
    · have q1 : ¬ (k : Int) ≤ 5 := by omega
      obtain rfl : k = 6 := by omega
      have HBL : Hid (Below w.heap.size w wr) := hbel
      clear hbel e10 e11 z1 z2 h1 h1'
      cases ho : okV 4 (efd s 6) ⟨#[]⟩
      · have HOK : Hid (okV 4 (efd s 6) ⟨#[]⟩ = false) := ho
        have HE : Hid (rvB 4 (efd s 6) ⟨#[]⟩ = .tuple #[.agg #[.int .i64 0, .int .i64 0, .string ⟨#[]⟩], .bool false]) := rvB_no ho
        clear ho
        go_wp2_with fail
        refine (spec_ValueOk _ _ _ _ nil_ok).mono ?_
        rintro e w1 ⟨rfl, hb⟩
        try rw [HOK.out]
        have HB1 : Hid (Below w.heap.size w w1) := bchain HBL.out hb
        have g0 := (hb.frozen (p := ⟨w.heap.size, 0, none⟩) l0).trans f0
        have g1 := (hb.frozen (p := ⟨w.heap.size, 1, none⟩) l0).trans f1
        have g2 := (hb.frozen (p := ⟨w.heap.size, 2, none⟩) l0).trans f2
        have d0 := (hb.cell (p := ⟨w.heap.size, 0, none⟩) l0).trans c0
        have d1 := (hb.cell (p := ⟨w.heap.size, 1, none⟩) l0).trans c1
        have d2 := (hb.cell (p := ⟨w.heap.size, 2, none⟩) l0).trans c2
        have d3 := (hb.cell (p := ⟨w.heap.size + 1, 0, none⟩) l1).trans c3
        have d4 := (hb.cell (p := ⟨w.heap.size + 1, 1, none⟩) l1).trans c4
        have d5 := (hb.cell (p := ⟨w.heap.size + 1, 2, none⟩) l1).trans c5
        clear c0 c1 c2 c3 c4 c5
        clear hb f0 f1 f2 f3 f4 f5 l0 l1 hsz HBL
        go_wp2_with fail
        refine bodyPost_ret (v := .tuple #[.agg #[.int .i64 0, .int .i64 0, .string ⟨#[]⟩], .bool false]) ?_ rfl ⟨by rw [HE.out], ((HB1.out.setCell (by simp) _).setCell (by simp) _).setCell (by simp) _⟩
        simp (maxDischargeDepth := 9) [results, Tryd.results29, go_sem, *]
      · have HOK : Hid (okV 4 (efd s 6) ⟨#[]⟩ = true) := ho
        have HE : Hid (rvB 4 (efd s 6) ⟨#[]⟩ = .tuple #[.agg #[.int .i64 4, .int .i64 (efd s 6), .string ⟨#[]⟩], .bool true]) := rvB_yes ho
        clear ho
        go_wp2_with fail
        refine (spec_ValueOk _ _ _ _ nil_ok).mono ?_
        rintro e w1 ⟨rfl, hb⟩
        try rw [HOK.out]
        have HB1 : Hid (Below w.heap.size w w1) := bchain HBL.out hb
        have g0 := (hb.frozen (p := ⟨w.heap.size, 0, none⟩) l0).trans f0
        have g1 := (hb.frozen (p := ⟨w.heap.size, 1, none⟩) l0).trans f1
        have g2 := (hb.frozen (p := ⟨w.heap.size, 2, none⟩) l0).trans f2
        have d0 := (hb.cell (p := ⟨w.heap.size, 0, none⟩) l0).trans c0
        have d1 := (hb.cell (p := ⟨w.heap.size, 1, none⟩) l0).trans c1
        have d2 := (hb.cell (p := ⟨w.heap.size, 2, none⟩) l0).trans c2
        have d3 := (hb.cell (p := ⟨w.heap.size + 1, 0, none⟩) l1).trans c3
        have d4 := (hb.cell (p := ⟨w.heap.size + 1, 1, none⟩) l1).trans c4
        have d5 := (hb.cell (p := ⟨w.heap.size + 1, 2, none⟩) l1).trans c5
        clear c0 c1 c2 c3 c4 c5
        clear hb f0 f1 f2 f3 f4 f5 l0 l1 hsz HBL
        go_wp2_with fail
        refine bodyPost_ret (v := .tuple #[.agg #[.int .i64 4, .int .i64 (efd s 6), .string ⟨#[]⟩], .bool true]) ?_ rfl ⟨by rw [HE.out], ((HB1.out.setCell (by simp) _).setCell (by simp) _).setCell (by simp) _⟩
        simp (maxDischargeDepth := 9) [results, Tryd.results29, go_sem, *]
end Go.Proofs.YtidmajdiidfceaaDoor
