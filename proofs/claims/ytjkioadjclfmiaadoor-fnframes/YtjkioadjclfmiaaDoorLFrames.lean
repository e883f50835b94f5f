import Derived.Test.YtjkioadjclfmiaaDoorFrE
import Derived.Test.YtjkioadjclfmiaaDoorFrF
import Derived.Test.YtjkioadjclfmiaaDoorSsA
import Derived.Test.YtjkioadjclfmiaaDoorOpenB
namespace Go.Proofs.YtjkioadjclfmiaaDoor
open Go.RowKit
set_option linter.unusedSimpArgs false
set_option linter.unusedVariables false

set_option maxHeartbeats 1000000 in
theorem laws_sameTexts {A A' : Option Addr} {n cap cap' : Nat} {xs : List ByteArray} (w : World) (h : SRow w A xs) (h' : SRow w A' xs) (hn : n = xs.length) :
    Calls Tryd.prog 10 #[.slice A n cap, .slice A' n cap'] w fun e w' => e = .returned (.bool true) ∧ Below w.heap.size w w' := by
  have HR : Hid (SRow w A xs) := h
  have HR' : Hid (SRow w A' xs) := h'
  have hm := h.1
  unfold maxLen at hm
  clear h h'
  go_enter Tryd.func10, Tryd.ntmps10
  go_wp2_with fail
  go_loopw [5] (fun i wr => ∃ t : Nat, t ≤ n ∧ i = .int .i64 t ∧ Below w.heap.size w wr) (fun i _ => n - (intOf i).toNat)
  case atStart => exact ⟨0, Nat.zero_le _, rfl, by go_grown⟩
  case round =>
    obtain ⟨t, ht, rfl, hbel⟩ := hrel
    by_cases hlt : t < n
    · obtain ⟨b, o, rfl, hl, c0⟩ := HR.out.2 t (by omega)
      obtain ⟨b', o', rfl, hl', c1⟩ := HR'.out.2 t (by omega)
      rw [← hbel.cell (p := ⟨_, _, none⟩) hl] at c0
      rw [← hbel.cell (p := ⟨_, _, none⟩) hl'] at c1
      obtain ⟨x, HX⟩ : ∃ x : ByteArray, Hid (xs[t]'(by omega) = x) := ⟨xs[t]'(by omega), (rfl : xs[t]'(by omega) = _)⟩
      rw [HX.out] at c0 c1
      have e1 := str_selfS x
      have q0 : (0 : Int) ≤ (t : Int) := by omega
      have q1 : (t : Int) < (n : Int) := by omega
      have HB : Hid (Below w.heap.size w wr) := hbel
      clear hbel
      go_wp2_with fail
      go_quiet (fail)
      go_wp2_with fail
      go_roundw
      case rel => exact ⟨t + 1, by omega, by go_num, bdrewN HB.out _⟩
      case measure => simp [intOf]; omega
    · have q1 : ¬ (t : Int) < (n : Int) := by omega
      go_wp2_with fail
      go_ret
      exact ⟨rfl, hbel⟩



theorem own_cap {W : World} {B : Nat} {e : TypeId} {size n cap : Nat} {A : Option Addr} {xs : List Value} (h : W.ownsRow B e size (.slice A n cap) n xs) : n ≤ cap := by
  rcases h.2 with ⟨e1, e2⟩ | ⟨g, c, cur, e1, _, _, h1, _⟩
  · omega
  · cases e1; exact h1
set_option maxRecDepth 100000 in
set_option maxHeartbeats 8000000 in
theorem law_FnFrames (A : Option Addr) (len cap : Nat) (w : World) (hz : Co w A len) (hCR : CR w) (hgz : 0 < w.heap.size) : Calls Tryd.prog 3 #[.slice A len cap] w fun e w' =>
    e = .returned (.bool true) ∧ Below w.heap.size w w' := by
  have HCR : Hid (CR w) := hCR
  clear hCR
  by_cases hbig : (1048576 : Int) < (len : Int)
  · go_enter Tryd.func3, Tryd.ntmps3
    go_wp2_with fail
    refine (laws_big A len cap _).mono ?_
    rintro e wq ⟨rfl, hw⟩
    subst wq
    go_wp2_with fail
    go_ret
    exact ⟨rfl, by go_grown⟩
  have HC : Hid (Cd w A len) := ⟨by omega, hz.2⟩
  clear hz
  go_enter Tryd.func3, Tryd.ntmps3
  go_wp2_with fail
  refine (laws_big A len cap _).mono ?_
  rintro e wq ⟨rfl, hw⟩
  subst wq
  go_wp2_with fail
  refine (draw_takeFrames A len cap _ HC.out).mono ?_
  rintro e u0 ⟨s, rfl, hs, hb⟩
  have K0 : Hid (Below w.heap.size w u0) := hb
  clear hb
  go_wp2_with fail
  refine (impl_TakeFrames s (by omega) _ (HCR.out.of K0.out hgz) (Nat.lt_of_lt_of_le hgz K0.out.size)).mono ?_
  rintro e u1 ⟨xs, a, v0, rfl, hrd, hfb, ho, hb⟩
  have HR : Hid (FRd s xs a) := hrd
  have HF : Hid (frB s a = false) := hfb
  have hle := hrd.le
  have hmany := hrd.many
  obtain ⟨A0, cap0, rfl, _, _⟩ := own_shape ho
  obtain ⟨n, HN⟩ : ∃ n : Nat, Hid (n = xs.length) := ⟨_, rfl⟩
  rw [← HN.out] at ho hmany ⊢
  have O0 : Hid (SRow u1 A0 xs) := (srow_own ho).1
  have hcap := own_cap ho
  have K1 : Hid (Below w.heap.size w u1) := bchain K0.out hb
  clear hb ho hrd hfb
  go_wp2_with fail
  refine (spec_TakeFrames s (by omega) _).mono ?_
  rintro e u2 ⟨ys, b, v1, rfl, hrd, hfb, ho, hb⟩
  obtain ⟨rfl, rfl⟩ := HR.out.unique HF.out hrd hfb
  obtain ⟨A1, cap1, rfl, _, _⟩ := own_shape ho
  rw [← HN.out] at ho ⊢
  have O02 : Hid (SRow u2 A0 xs) := O0.out.below hb
  have O12 : Hid (SRow u2 A1 xs) := (srow_own ho).1
  have K2 : Hid (Below w.heap.size w u2) := bchain K1.out hb
  clear hb ho hrd hfb O0
  go_wp2_with fail
  refine (laws_sameTexts _ O02.out O12.out HN.out).mono ?_
  rintro e u3 ⟨rfl, hb⟩
  have O03 : Hid (SRow u3 A0 xs) := O02.out.below hb
  have K3 : Hid (Below w.heap.size w u3) := bchain K2.out hb
  clear hb O02 O12
  have q1 : ¬ (s.size : Int) < (a : Int) := by omega
  have q1n : decide (s.size < a) = false := by simpa using hle
  go_wp2_with fail
  go_loopw [8, 9] (fun o i wr => ∃ t : Nat, t ≤ n ∧ i = .int .i64 t ∧ o = .string (framesOf (xs.take t)) ∧ Below u3.heap.size u3 wr) (fun _ i _ => n - (intOf i).toNat)
  case atStart => exact ⟨0, Nat.zero_le _, rfl, rfl, Below.refl _ _⟩
  case round =>
    obtain ⟨t, ht, rfl, rfl, hb⟩ := hrel
    have KL : Hid (Below u3.heap.size u3 wr) := hb
    have KW : Hid (Below w.heap.size w wr) := bchain K3.out hb
    clear hb
    by_cases hlt : t < n
    · have hxl : t < xs.length := by have := HN.out; omega
      obtain ⟨b, o, rfl, hl, c0⟩ := O03.out.2 t hxl
      rw [← KL.out.cell (p := ⟨_, _, none⟩) hl] at c0
      have HFT : Hid (framesOf (xs.take (t + 1)) = framesOf (xs.take t) ++ frameT (xs[t]'hxl)) := framesOf_take hxl
      obtain ⟨p, HP⟩ : ∃ p : ByteArray, Hid (p = framesOf (xs.take t)) := ⟨_, rfl⟩
      have HXZ : Hid ((xs[t]'hxl).size + p.size + 8 ≤ 100) := by
        have h1 := HR.out.sizes t hxl
        rw [← HP.out] at h1
        exact (by omega : (xs[t]'hxl).size + p.size + 8 ≤ 100)
      obtain ⟨x, HX⟩ : ∃ x : ByteArray, Hid (x = xs[t]'hxl) := ⟨xs[t]'hxl, (rfl : xs[t]'hxl = _)⟩
      rw [← HX.out] at c0 HFT HXZ
      rw [← HP.out] at HFT ⊢
      have hxz := HXZ.out
      have q0 : (0 : Int) ≤ (t : Int) := by omega
      have q2 : (t : Int) < (n : Int) := by omega
      have HZ : Hid ((frameT x).size = x.size + 8) := frameT_size (by omega)
      go_wp2_with fail
      refine (impl_FrameOf x (by omega) _ (HCR.out.of KW.out hgz) (Nat.lt_of_lt_of_le hgz KW.out.size)).mono ?_
      rintro e w4 ⟨rfl, hb⟩
      have KL4 : Hid (Below u3.heap.size u3 w4) := bchain KL.out hb
      clear hb KL KW
      obtain ⟨f, HFF⟩ : ∃ f : ByteArray, Hid (f = frameT x) := ⟨_, rfl⟩
      rw [← HFF.out] at HZ HFT ⊢
      have hfz := HZ.out
      have q3 : ¬ 9223372036854775807 < p.size + f.size := by omega
      go_wp2_with fail
      go_roundw
      case rel => exact ⟨t + 1, by omega, by go_num, by rw [HFT.out], KL4.out⟩
      case measure => simp [intOf]; omega
    · obtain rfl : t = n := by omega
      have q2 : ¬ (t : Int) < (t : Int) := by omega
      have HAll : Hid (framesOf (xs.take t) = s.extract 0 a) := by show _ = _; rw [HN.out, List.take_length]; exact HR.out.frames
      have O04 : Hid (SRow wr A0 xs) := O03.out.below KL.out
      obtain ⟨al, HAL⟩ : ∃ al : ByteArray, Hid (al = s.extract 0 a) := ⟨_, rfl⟩
      have hal : al.size = a := by rw [HAL.out, fext_size hle]; omega
      rw [HAll.out, ← HAL.out]
      clear HAll O03 KL
      go_wp2_with fail
      refine (draw_frameOf A len cap _ (HC.out.below KW.out)).mono ?_
      rintro e u5 ⟨t5, rfl, ht5, hb⟩
      have O05 : Hid (SRow u5 A0 xs) := O04.out.below hb
      have K5 : Hid (Below w.heap.size w u5) := bchain KW.out hb
      clear hb O04 KW
      have HZ5 : Hid ((frameT t5).size = t5.size + 8) := frameT_size (by omega)
      have HM : Hid (FRd (al ++ frameT t5) (xs ++ [t5]) (a + 8 + t5.size) ∧ (al ++ frameT t5).size = a + 8 + t5.size) := by have := HR.out.more t5 (by omega); rw [← HAL.out] at this; exact this
      have HFr : Hid (∀ W : World, CR W → 0 < W.heap.size → Calls Tryd.prog 11 #[.string t5] W fun e w' => e = .returned (.string (frameT t5)) ∧ Below W.heap.size W w') := fun W h1 h2 => impl_FrameOf t5 (by omega) W h1 h2
      obtain ⟨f5, HF5⟩ : ∃ f : ByteArray, Hid (f = frameT t5) := ⟨_, rfl⟩
      rw [← HF5.out] at HZ5 HM HFr
      go_wp2_with fail
      refine (HFr.out _ (HCR.out.of K5.out hgz) (Nat.lt_of_lt_of_le hgz K5.out.size)).mono ?_
      rintro e u6 ⟨rfl, hb⟩
      have O06 : Hid (SRow u6 A0 xs) := O05.out.below hb
      have K6 : Hid (Below w.heap.size w u6) := bchain K5.out hb
      clear hb O05 K5
      have hz5 := HZ5.out
      have hz6 := HM.out.2
      have q3 : ¬ 9223372036854775807 < al.size + f5.size := by omega
      go_wp2_with fail
      refine (impl_TakeFrames (al ++ f5) (by omega) _ (HCR.out.of K6.out hgz) (Nat.lt_of_lt_of_le hgz K6.out.size)).mono ?_
      rintro e u7 ⟨zs, c, v2, rfl, hrd, hfb, ho, hb⟩
      have hEnd : frB (al ++ f5) (a + 8 + t5.size) = false := by rw [← hz6]; exact frB_end _
      obtain ⟨rfl, rfl⟩ := HM.out.1.unique hEnd hrd hfb
      obtain ⟨A2, cap2, rfl, _, _⟩ := own_shape ho
      have hl2 : (xs ++ [t5]).length = t + 1 := by rw [List.length_append, ← HN.out]; rfl
      rw [hl2] at ho ⊢
      have O27 : Hid (SRow u7 A2 (xs ++ [t5])) := (srow_own ho).1
      have O07 : Hid (SRow u7 A0 xs) := O06.out.below hb
      have K7 : Hid (Below w.heap.size w u7) := bchain K6.out hb
      clear hb ho hrd hfb hEnd O06 K6 hz6
      have hw1 : IntKind.i64.wrap ((a : Int) + 1) = (a : Int) + 1 := by rw [IntKind.wrap_i64]; omega
      have hne : ¬ ((a : Int) + 1 = 0) := by omega
      obtain ⟨k, HK⟩ : ∃ k : Nat, Hid (k = len % (a + 1)) := ⟨_, rfl⟩
      have hk : k ≤ a := by have h1 := HK.out; have h2 := Nat.mod_lt len (show 0 < a + 1 by omega); omega
      have hkk : (len : Int) % ((a : Int) + 1) = (k : Int) := by rw [HK.out]; simp
      have hkt : Int.tmod (len : Int) ((a : Int) + 1) = (k : Int) := by rw [Int.tmod_eq_emod_of_nonneg (by omega)]; exact hkk
      have k0 : (0 : Int) ≤ (k : Int) := by omega
      have k1 : (k : Int) ≤ (al.size : Int) := by omega
      have k2 : (k : Int) ≤ (a : Int) := by omega
      obtain ⟨cu, HCU⟩ : ∃ cu : ByteArray, Hid (cu = al.extract 0 k) := ⟨_, rfl⟩
      have hcu : al.extract 0 k = cu := HCU.out.symm
      have hcz : cu.size = k := by rw [HCU.out, fext_size (by omega)]; omega
      go_wp2_with fail
      refine (impl_TakeFrames cu (by omega) _ (HCR.out.of K7.out hgz) (Nat.lt_of_lt_of_le hgz K7.out.size)).mono ?_
      rintro e u8 ⟨ys, c, v3, rfl, hrd, hfb, ho, hb⟩
      have HFW : Hid (ys.length ≤ xs.length ∧ ys = xs.take ys.length) := HR.out.few hk (by rw [← HAL.out, hcu]; exact hrd)
      obtain ⟨A3, cap3, rfl, _, _⟩ := own_shape ho
      obtain ⟨j, HJ⟩ : ∃ j : Nat, Hid (j = ys.length) := ⟨_, rfl⟩
      rw [← HJ.out] at ho HFW ⊢
      have O38 : Hid (SRow u8 A3 ys) := (srow_own ho).1
      have O08 : Hid (SRow u8 A0 ys) := by have := (O07.out.below hb).take j; rw [← HFW.out.2] at this; exact this
      have O28 : Hid (SRow u8 A2 (xs ++ [t5])) := O27.out.below hb
      have K8 : Hid (Below w.heap.size w u8) := bchain K7.out hb
      have hjt : j ≤ t := by have := HFW.out.1; have := HN.out; omega
      clear hb ho hrd hfb O07 O27 K7
      obtain ⟨b2, o2, rfl, hl8, c8⟩ := O28.out.2 t (by rw [hl2]; omega)
      have hx8 : (xs ++ [t5])[t]'(by rw [hl2]; omega) = t5 := by
        have e9 : t = xs.length := HN.out
        subst e9
        simp
      rw [hx8] at c8
      clear hx8
      have hal2 : s.extract 0 a = al := HAL.out.symm
      have e1 := str_selfS al
      have e2 := str_selfS t5
      have a0 : (0 : Int) ≤ (a : Int) := by omega
      have a1 : (a : Int) ≤ (s.size : Int) := by omega
      have j0 : (0 : Int) ≤ (j : Int) := by omega
      have j1 : (j : Int) ≤ (t : Int) := by omega
      have j2 : (j : Int) ≤ (cap0 : Int) := by omega
      have t0 : (0 : Int) ≤ (t : Int) := by omega
      have t1 : (t : Int) < (t : Int) + 1 := by omega
      go_wp2_with fail
      refine (HFr.out _ (HCR.out.of K8.out hgz) (Nat.lt_of_lt_of_le hgz K8.out.size)).mono ?_
      rintro e u9 ⟨rfl, hb⟩
      have O39 : Hid (SRow u9 A3 ys) := O38.out.below hb
      have O09 : Hid (SRow u9 A0 ys) := O08.out.below hb
      have K9 : Hid (Below w.heap.size w u9) := bchain K8.out hb
      clear hb O38 O08 K8
      have hmm : ((a : Int) + 8 + (t5.size : Int) == (a : Int) + ((t5.size : Int) + 8)) = true := by simp; omega
      go_wp2_with fail
      refine (laws_sameTexts _ O39.out O09.out HJ.out).mono ?_
      rintro e u10 ⟨rfl, hb⟩
      have K10 : Hid (Below w.heap.size w u10) := bchain K9.out hb
      clear hb
      go_wp2_with fail
      go_ret
      exact ⟨rfl, K10.out⟩
end Go.Proofs.YtjkioadjclfmiaaDoor
