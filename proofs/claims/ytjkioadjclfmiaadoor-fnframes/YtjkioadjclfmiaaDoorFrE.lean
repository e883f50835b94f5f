import Derived.Test.YtjkioadjclfmiaaDoorDrawT
import Derived.Test.YtjkioadjclfmiaaDoorCrC
namespace Go.Proofs.YtjkioadjclfmiaaDoor
open Go.RowKit
set_option linter.unusedVariables false
set_option linter.unusedSimpArgs false

set_option maxRecDepth 100000 in
set_option maxHeartbeats 4000000 in
theorem rd_bytes5 (r : Nat) (A : Option Addr) (len cap : Nat) (w : World) (hr : Rd w r A len cap) : Calls Tryd.prog 26 #[.pointer (some ⟨r, 0, none⟩), .int .i64 5] w fun e w' =>
    ∃ s : ByteArray, e = .returned (.string s) ∧ s.size ≤ 5 ∧ Rd w' r A len cap ∧ Upd r w w' := by
  have HH : Hid (Rd w r A len cap) := hr
  have HL : Hid (r < w.heap.size) := hr.lt
  clear hr
  go_enter Tryd.func26, Tryd.ntmps26
  have HO0 : Hid ((w.alloc (.cells #[] 5)).ownsRow w.heap.size 5 1 (.slice (some ⟨w.heap.size, 0, none⟩) 0 0) 0 []) := own_empty8 (Nat.le_refl _) rfl
  go_wp2_with fail
  refine (rd_belowG r A len cap 6 _ (HH.out.below (by go_grown)) (by omega) (by omega)).mono ?_
  rintro e w1 ⟨v, rfl, v0, v1, hr, hu⟩
  have HR1 : Hid (Rd w1 r A len cap) := hr
  have HU1 : Hid (UpdG r w w1) := (UpdG.of_below (Nat.le_of_lt HL.out) (by go_grown)).trans hu
  have HO1 : Hid (w1.ownsRow w.heap.size 5 1 (.slice (some ⟨w.heap.size, 0, none⟩) 0 0) 0 []) := own_updG HO0.out hu HL.out
  clear hr hu HO0
  obtain ⟨n, rfl⟩ : ∃ n : Nat, v = (n : Int) := ⟨v.toNat, by omega⟩
  go_wp2_with fail
  go_loopw [5, 6] (fun o i wr => ∃ (t k : Nat) (xs : List Value), i = .int .i64 t ∧ t + k ≤ 5 ∧ wr.ownsRow w.heap.size 5 1 o k xs ∧ Bys xs ∧ Rd wr r A len cap ∧ UpdG r w wr) (fun _ i _ => (intOf i).toNat)
  case atStart => exact ⟨n, 0, [], rfl, by omega, HO1.out, ⟨[], rfl⟩, HR1.out, HU1.out⟩
  case round =>
    clear HR1 HU1 HO1
    obtain ⟨t, k, xs, rfl, htk, hown, hby, hr, hu⟩ := hrel
    have HO : Hid (wr.ownsRow w.heap.size 5 1 u5 k xs) := hown
    have HY : Hid (Bys xs) := hby
    have HR : Hid (Rd wr r A len cap) := hr
    have HU : Hid (UpdG r w wr) := hu
    have HSZ : Hid (w.heap.size ≤ wr.heap.size) := hu.1.2.2.1
    clear hown hby hr hu
    by_cases h0 : (t : Int) ≤ 0
    · have h0' : ¬ (0 : Int) < (t : Int) := by omega
      obtain ⟨s, hs, hcv⟩ := conv_row HO.out HY.out
      have HS : Hid (s.size ≤ 5) := (by omega : s.size ≤ 5)
      clear hs
      go_wp2_with fail
      go_ret
      exact ⟨s, rfl, HS.out, HR.out, HU.out.1⟩
    · have h0' : (0 : Int) < (t : Int) := by omega
      go_wp2_with fail
      refine (rd_belowG r A len cap 256 _ HR.out (by omega) (by omega)).mono ?_
      rintro e w2 ⟨z, rfl, z0, z1, hr, hu⟩
      have HR2 : Hid (Rd w2 r A len cap) := hr
      have HU2 : Hid (UpdG r w w2) := HU.out.trans hu
      have HO2 : Hid (w2.ownsRow w.heap.size 5 1 u5 k xs) := own_updG HO.out hu HL.out
      have HS2 : Hid (w.heap.size ≤ w2.heap.size) := Nat.le_trans HSZ.out hu.1.2.2.1
      clear hr hu HO HR HU
      go_wp2_with (at_builtin; refine app_byte _ rfl _ _ rfl u5 rfl w.heap.size ?hb k xs ?hw z _ rfl ?hc (by omega) ?_)
      case hb => have := HS2.out; simp; omega
      case hw => exact own_below8 HO2.out (by go_grown)
      case hc => simp
      intro v3 w3 hown3 hgrow3
      have HB3 : Hid (Below w.heap.size w2 w3) := Below.grown (Below.mono (by go_grown : Below w2.heap.size w2 (w2.alloc (.cells #[.int .u8 z] 5))) HS2.out) hgrow3 (by have := HS2.out; simp; omega) (fun q hq => (HO2.out.lt q hq).1)
      have HO3 : Hid (w3.ownsRow w.heap.size 5 1 v3 (k + 1) (xs ++ [.int .u8 z])) := hown3
      have HY3 : Hid (Bys (xs ++ [.int .u8 z])) := by
        obtain ⟨l, hl⟩ := HY.out
        exact ⟨l ++ [z], by rw [hl]; simp⟩
      have HR3 : Hid (Rd w3 r A len cap) := (HH.out.carry HR2.out HU2.out.1 HB3.out).1
      have HU3 : Hid (UpdG r w w3) := ⟨(HH.out.carry HR2.out HU2.out.1 HB3.out).2, ⟨HB3.out.os.trans HU2.out.2.os, HB3.out.tape.trans HU2.out.2.tape, HB3.out.output.trans HU2.out.2.output, Nat.le_trans HU2.out.2.size HB3.out.size, fun q hq hn => (HB3.out.block q hq).trans (HU2.out.2.block q hq hn)⟩⟩
      clear hown3 hgrow3 HO2 HR2 HU2 HB3
      go_wp2_with fail
      go_roundw
      case rel => exact ⟨t - 1, k + 1, _, by congr 1; omega, by omega, HO3.out, HY3.out, HR3.out, HU3.out⟩
      case measure => simp [intOf]; omega

set_option maxHeartbeats 2000000 in
theorem rd_text (r : Nat) (A : Option Addr) (len cap : Nat) (w : World) (hr : Rd w r A len cap) : Calls Tryd.prog 19 #[.pointer (some ⟨r, 0, none⟩)] w fun e w' =>
    ∃ s : ByteArray, e = .returned (.string s) ∧ s.size ≤ 3 ∧ Rd w' r A len cap ∧ Upd r w w' := by
  have HH : Hid (Rd w r A len cap) := hr
  have hL : r < w.heap.size := hr.lt
  clear hr
  go_enter Tryd.func19, Tryd.ntmps19
  go_wp2_with fail
  refine (rd_below r A len cap 6 _ (HH.out.below (by go_grown)) (by omega) (by omega)).mono ?_
  rintro e w2 ⟨v, rfl, v0, v1, hr, hu⟩
  have HR : Hid (Rd w2 r A len cap) := hr
  have HU : Hid (Upd r w w2) := (Upd.of_below (Nat.le_of_lt hL) (by go_grown)).trans hu
  obtain ⟨uc, uf, uz, ub⟩ := hu
  clear hr ub
  have n1 : ¬ w.heap.size = r := by omega
  have hv : v = 0 ∨ v = 1 ∨ v = 2 ∨ v = 3 ∨ v = 4 ∨ v = 5 := by omega
  rcases hv with rfl | rfl | rfl | rfl | rfl | rfl
  all_goals
    go_wp2_with fail
    go_ret
    exact ⟨_, rfl, by decide, HR.out, HU.out⟩

set_option maxHeartbeats 1000000 in
theorem draw_frameOf (A : Option Addr) (len cap : Nat) (w : World) (h : Cd w A len) : Calls Tryd.prog 12 #[.slice A len cap] w fun e w' =>
    ∃ s : ByteArray, e = .returned (.string s) ∧ s.size ≤ 8 ∧ Below w.heap.size w w' := by
  have HH : Hid (Cd w A len) := h
  clear h
  go_enter Tryd.func12, Tryd.ntmps12
  go_wp2_with fail
  refine (spec_l1Open A len cap _).mono ?_
  rintro e w1 ⟨rfl, rfl⟩
  go_wp2_with fail
  refine (rd_text w.heap.size A len cap _ (HH.out.open (by go_grown) (by simp))).mono ?_
  rintro e w2 ⟨s1, rfl, z1, hr, hu⟩
  have HR : Hid (Rd w2 w.heap.size A len cap) := hr
  have HU : Hid (Below w.heap.size w w2) := Below.trans (by go_grown) hu.2.2.2
  clear hr hu
  go_wp2_with fail
  refine (rd_bytes5 w.heap.size A len cap _ HR.out).mono ?_
  rintro e w3 ⟨s2, rfl, z2, hr, hu⟩
  have HU3 : Hid (Below w.heap.size w w3) := HU.out.trans hu.2.2.2
  clear hr hu
  have q : ¬ 9223372036854775807 < s1.size + s2.size := by omega
  go_wp2_with fail
  go_ret
  exact ⟨_, rfl, by rw [ByteArray.size_append]; omega, HU3.out⟩

theorem frameT_size {s : ByteArray} (h : s.size ≤ 1000000) : (frameT s).size = s.size + 8 := by
  unfold frameT
  rw [if_neg (by omega), ByteArray.size_append, ByteArray.size_append, four_size, four_size]
  omega

set_option maxHeartbeats 1000000 in
theorem draw_takeFrames (A : Option Addr) (len cap : Nat) (w : World) (h : Cd w A len) : Calls Tryd.prog 7 #[.slice A len cap] w fun e w' =>
    ∃ s : ByteArray, e = .returned (.string s) ∧ s.size ≤ 100 ∧ Below w.heap.size w w' := by
  have HH : Hid (Cd w A len) := h
  clear h
  go_enter Tryd.func7, Tryd.ntmps7
  go_wp2_with fail
  refine (spec_l1Open A len cap _).mono ?_
  rintro e w1 ⟨rfl, rfl⟩
  go_wp2_with fail
  refine (rd_below w.heap.size A len cap 4 _ (HH.out.open (by go_grown) (by simp)) (by omega) (by omega)).mono ?_
  rintro e w2 ⟨v, rfl, v0, v1, hr, hu⟩
  have HR : Hid (Rd w2 w.heap.size A len cap) := hr
  have HU : Hid (Below w.heap.size w w2) := Below.trans (by go_grown) hu.2.2.2
  clear hr hu
  obtain ⟨n, rfl⟩ : ∃ n : Nat, v = (n : Int) := ⟨v.toNat, by omega⟩
  go_wp2_with fail
  go_loopw [4, 5] (fun o i wr => ∃ (t : Nat) (s : ByteArray), i = .int .i64 t ∧ o = .string s ∧ t ≤ 3 ∧ s.size + t * 11 ≤ 33 ∧ Rd wr w.heap.size A len cap ∧ Below w.heap.size w wr) (fun _ i _ => (intOf i).toNat)
  case atStart => exact ⟨n, ⟨#[]⟩, rfl, rfl, by omega, by show 0 + _ ≤ _; omega, HR.out, HU.out⟩
  case round =>
    clear HR HU
    obtain ⟨t, s, rfl, rfl, ht, hst, hr, hb⟩ := hrel
    have HR : Hid (Rd wr w.heap.size A len cap) := hr
    have HB : Hid (Below w.heap.size w wr) := hb
    clear hr hb
    by_cases h0 : 0 < t
    · have q0 : (0 : Int) < (t : Int) := by omega
      go_wp2_with fail
      refine (rd_text w.heap.size A len cap _ HR.out).mono ?_
      rintro e w3 ⟨s1, rfl, z1, hr, hu⟩
      have HR3 : Hid (Rd w3 w.heap.size A len cap) := hr
      have HB3 : Hid (Below w.heap.size w w3) := HB.out.trans hu.2.2.2
      clear hr hu HR HB
      have HZ : Hid ((frameT s1).size = s1.size + 8) := frameT_size (by omega)
      go_wp2_with fail
      refine (spec_FrameOf s1 (by omega) _).mono ?_
      rintro e w4 ⟨rfl, hb⟩
      have HR4 : Hid (Rd w4 w.heap.size A len cap) := HR3.out.below hb
      have HB4 : Hid (Below w.heap.size w w4) := bchain HB3.out hb
      clear hb HR3 HB3
      obtain ⟨f, HF⟩ : ∃ f : ByteArray, Hid (f = frameT s1) := ⟨_, rfl⟩
      rw [← HF.out] at HZ ⊢
      have hz := HZ.out
      have q : ¬ 9223372036854775807 < s.size + f.size := by omega
      go_wp2_with fail
      go_roundw
      case rel => exact ⟨t - 1, s ++ f, by congr 1; omega, rfl, by omega, by rw [ByteArray.size_append]; omega, HR4.out, HB4.out⟩
      case measure => simp [intOf]; omega
    · have q0 : ¬ (0 : Int) < (t : Int) := by omega
      go_wp2_with fail
      refine (rd_hurt w.heap.size A len cap s _ HR.out (by omega)).mono ?_
      rintro e w3 ⟨s1, rfl, z1, hr, hu⟩
      have HB3 : Hid (Below w.heap.size w w3) := HB.out.trans hu.2.2.2
      clear hr hu
      go_wp2_with fail
      go_ret
      exact ⟨s1, rfl, by omega, HB3.out⟩
end Go.Proofs.YtjkioadjclfmiaaDoor
