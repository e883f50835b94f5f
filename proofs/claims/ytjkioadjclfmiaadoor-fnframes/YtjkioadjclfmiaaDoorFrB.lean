import Derived.Test.YtjkioadjclfmiaaDoorFrM
import Derived.Deep.QuietTactic
import Derived.BigQuiet
import Derived.Deep.RegionWith
namespace Go.Proofs.YtjkioadjclfmiaaDoor
open Go.RowKit
set_option linter.unusedSimpArgs false

theorem CR.drewN {W : World} (h : CR W) (n : Nat) : CR (W.drewN n) := fun i hi => by have := h i hi; simpa using this
def frO (r : ByteArray) : ByteArray := if frB r 0 then frD r 0 else ⟨#[]⟩
theorem ofFour (s : ByteArray) (a : Nat) (h : a + 4 ≤ s.size) (w : World) : Calls Tryd.prog 29 #[.string (s.extract a s.size)] w fun e w' =>
    e = .returned (.int .u32 (nAt s a : Nat)) ∧ ∃ n, w' = w.drewN n := by
  have hz : (s.extract a s.size).size = s.size - a := fext_size (Nat.le_refl _)
  refine (impl_ofFourBytes (s.extract a s.size) (by omega) w).mono ?_
  rintro e w' ⟨rfl, h2⟩
  refine ⟨?_, h2⟩
  rw [bt_get, bt_get, bt_get, bt_get, bt_extract (by omega), bt_extract (by omega), bt_extract (by omega), bt_extract (by omega)]
  rfl
theorem extract_all (s : ByteArray) : s.extract 0 s.size = s := by
  apply ByteArray.ext
  apply Array.toList_inj.1
  rw [list_extract, List.drop_zero, Nat.sub_zero, List.take_of_length_le (by simp)]

set_option maxHeartbeats 1000000 in
theorem impl_firstFrame (r : ByteArray) (hs : r.size ≤ 4000000) (w : World) (hC : CR w) : Calls Tryd.prog 21 #[.string r] w fun e w' =>
    e = .returned (.tuple #[.string (frO r), .bool (frB r 0)]) ∧ ∃ n, w' = w.drewN n := by
  by_cases h8 : r.size < 8
  · have q : (r.size : Int) < 8 := by omega
    have hb : frB r 0 = false := by unfold frB; rw [decide_eq_false (p := 0 + 8 ≤ r.size ∧ _) (by omega), Bool.false_and]
    have HO : Hid (frO r = ⟨#[]⟩) := by unfold frO; rw [hb]; exact (rfl : _ = _)
    have HB : Hid (frB r 0 = false) := hb
    clear hb
    go_enter Tryd.func21, Tryd.ntmps21
    go_wp2_with fail
    rw [HO.out, HB.out]
    refine bodyPost_ret (v := .tuple #[.string ⟨#[]⟩, .bool false]) ?_ rfl ⟨rfl, 0, rfl⟩
    simp (maxDischargeDepth := 9) [results, Tryd.results21, go_sem, *]
  have q : ¬ (r.size : Int) < 8 := by omega
  have q4 : (4 : Int) ≤ (r.size : Int) := by omega
  have q8 : (8 : Int) ≤ (r.size : Int) := by omega
  obtain ⟨n, HN⟩ : ∃ n : Nat, Hid (n = nAt r 0) := ⟨_, rfl⟩
  obtain ⟨m, HM⟩ : ∃ m : Nat, Hid (m = nAt r 4) := ⟨_, rfl⟩
  have hn : n < 4294967296 := by rw [HN.out]; exact nAt_lt _ _
  obtain ⟨t, HT⟩ : ∃ t : ByteArray, Hid (t = r.extract 8 r.size) := ⟨_, rfl⟩
  have ht : t.size = r.size - 8 := by rw [HT.out, fext_size (Nat.le_refl _)]
  have hT : r.extract 8 r.size = t := HT.out.symm
  have F1 : Hid (∀ W : World, Calls Tryd.prog 29 #[.string r] W fun e w' => e = .returned (.int .u32 (n : Nat)) ∧ ∃ k, w' = W.drewN k) := fun W => by
    have := ofFour r 0 (by omega) W
    rw [extract_all, ← HN.out] at this
    exact this
  have F2 : Hid (∀ W : World, Calls Tryd.prog 29 #[.string (r.extract 4 r.size)] W fun e w' => e = .returned (.int .u32 (m : Nat)) ∧ ∃ k, w' = W.drewN k) := fun W => by
    have := ofFour r 4 (by omega) W
    rw [← HM.out] at this
    exact this
  go_enter Tryd.func21, Tryd.ntmps21
  go_wp2_with fail
  go_quiet (first
    | (go_at_call_of 29 (Value.string r); refine Calls.quiet_of (F1.out _))
    | (go_at_call 29; refine Calls.quiet_of (F2.out _)))
  have HNo : Hid (¬ (n ≤ 1000000 ∧ n ≤ t.size) → frB r 0 = false ∧ frO r = ⟨#[]⟩) := fun h => by
    have hb : frB r 0 = false := by
      unfold frB
      rw [← HN.out, decide_eq_false (p := 0 + 8 ≤ r.size ∧ n ≤ 1000000 ∧ 0 + 8 + n ≤ r.size) (by omega), Bool.false_and]
    exact ⟨hb, by unfold frO; rw [hb]; exact (rfl : _ = _)⟩
  by_cases h1 : 1000000 < n
  · have q1 : (1000000 : Int) < (n : Int) := by omega
    go_wp2_with fail
    obtain ⟨o1, o2⟩ := HNo.out (by omega)
    rw [o1, o2]
    refine bodyPost_ret (v := .tuple #[.string ⟨#[]⟩, .bool false]) ?_ rfl ⟨rfl, _, rfl⟩
    simp (maxDischargeDepth := 9) [results, Tryd.results21, go_sem, *]
  have q1 : ¬ (1000000 : Int) < (n : Int) := by omega
  by_cases h2 : t.size < n
  · have q2 : (t.size : Int) < (n : Int) := by omega
    go_wp2_with fail
    obtain ⟨o1, o2⟩ := HNo.out (by omega)
    rw [o1, o2]
    refine bodyPost_ret (v := .tuple #[.string ⟨#[]⟩, .bool false]) ?_ rfl ⟨rfl, _, rfl⟩
    simp (maxDischargeDepth := 9) [results, Tryd.results21, go_sem, *]
  have q2 : ¬ (t.size : Int) < (n : Int) := by omega
  have q3 : (n : Int) ≤ (t.size : Int) := by omega
  have q0 : (0 : Int) ≤ (n : Int) := by omega
  obtain ⟨d, HD⟩ : ∃ d : ByteArray, Hid (d = t.extract 0 n) := ⟨_, rfl⟩
  have hD : t.extract 0 n = d := HD.out.symm
  have hd : d.size = n := by rw [HD.out, fext_size (by omega)]; omega
  have HDr : Hid (d = r.extract (0 + 8) (0 + 8 + n)) := by show _ = _; rw [HD.out, HT.out, ext_ext _ _ _ _ _ (by omega)]
  have F3 : Hid (∀ W : World, CR W → Calls Tryd.prog 25 #[.string d] W fun e w' => e = .returned (.int .u32 (crcT d : Nat)) ∧ w' = W) := fun W hW => impl_checkOf d (by omega) W hW
  obtain ⟨c, HC⟩ : ∃ c : Nat, Hid (c = crcT d) := ⟨_, rfl⟩
  rw [← HC.out] at F3
  have HB : Hid (frB r 0 = (c == m)) := by
    show _ = _
    unfold frB
    rw [← HN.out, decide_eq_true (p := 0 + 8 ≤ r.size ∧ n ≤ 1000000 ∧ 0 + 8 + n ≤ r.size) (by omega), Bool.true_and, ← HDr.out, ← HC.out, HM.out]
  have HCR : Hid (CR (w.drewN nq)) := hC.drewN nq
  by_cases h3 : c = m
  · have q5 : ((c : Int) != (m : Int)) = false := by rw [h3]; simp
    go_wp2_with (go_at_call 25; refine (F3.out _ HCR.out).mono ?_; rintro e w2 ⟨rfl, rfl⟩)
    have hb : frB r 0 = true := by rw [HB.out, h3]; simp
    have ho : frO r = d := by unfold frO; rw [hb, if_pos rfl]; unfold frD; rw [HDr.out, ← HN.out]
    rw [hb, ho]
    refine bodyPost_ret (v := .tuple #[.string d, .bool true]) ?_ rfl ⟨rfl, _, rfl⟩
    simp (maxDischargeDepth := 9) [results, Tryd.results21, go_sem, *]
  · have q5 : ((c : Int) != (m : Int)) = true := by simp; omega
    go_wp2_with (go_at_call 25; refine (F3.out _ HCR.out).mono ?_; rintro e w2 ⟨rfl, rfl⟩)
    have hb : frB r 0 = false := by rw [HB.out]; simpa using h3
    have ho : frO r = ⟨#[]⟩ := by unfold frO; rw [hb]; exact (rfl : _ = _)
    rw [hb, ho]
    refine bodyPost_ret (v := .tuple #[.string ⟨#[]⟩, .bool false]) ?_ rfl ⟨rfl, _, rfl⟩
    simp (maxDischargeDepth := 9) [results, Tryd.results21, go_sem, *]
end Go.Proofs.YtjkioadjclfmiaaDoor
