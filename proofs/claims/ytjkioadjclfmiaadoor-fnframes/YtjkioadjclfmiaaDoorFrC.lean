import Derived.Test.YtjkioadjclfmiaaDoorFrB
namespace Go.Proofs.YtjkioadjclfmiaaDoor
open Go.RowKit
set_option linter.unusedSimpArgs false

theorem infoStrC : (Tryd.prog.info? 9).map (fun i => (i.zero, i.size, i.bytes)) = some (some (.string ⟨#[]⟩), 1, 16) := by kernel_rfl
def szOf : Value → Nat
  | .string b => b.size
  | _ => 0
/-- What TakeFrames answers. -/
def TakesC (s : ByteArray) (w : World) (e : Ending) (w' : World) : Prop := ∃ xs a v, e = .returned (.tuple #[v, .int .i64 (a : Nat)]) ∧ FRd s xs a ∧ frB s a = false ∧ w'.ownsRow w.heap.size 9 1 v xs.length (xs.map Value.string) ∧ Below w.heap.size w w'
theorem below_drewN {n : Nat} {w W : World} (h : Below n w W) (k : Nat) : Below n w (W.drewN k) := by
  induction k with
  | zero => exact h
  | succ k ih => first | exact ih.drew | (rw [World.drewN_succ]; exact ih.drew)

theorem own_drewN {W : World} {B : Nat} {e : TypeId} {size n : Nat} {v : Value} {xs : List Value} (h : W.ownsRow B e size v n xs) (k : Nat) : (W.drewN k).ownsRow B e size v n xs :=
  own_below h (below_drewN (Below.refl _ _) k)

set_option maxHeartbeats 1000000 in
theorem impl_TakeFrames (s : ByteArray) (hs : s.size ≤ 4000000) (w : World) (hC : CR w) (hz : 0 < w.heap.size) : Calls Tryd.prog 8 #[.string s] w (TakesC s w) := by
  obtain ⟨i0, hi, hz0, hz1, hz2⟩ := info_parts infoStrC
  have HCR : Hid (CR w) := hC
  clear hC
  have HA : Hid (s.extract 0 s.size = s) := extract_all s
  go_enter Tryd.func8, Tryd.ntmps8
  go_wp2_with (go_at_call 21; refine (impl_firstFrame s hs _ HCR.out).mono ?_; rintro e w1 ⟨rfl, k1, hk1⟩)
  have hb1 : Below w.heap.size w (w.drewN k1) := below_drewN (Below.refl _ _) _
  go_loopw [4, 5, 6, 7] (fun v r d o wr => ∃ xs a, FRd s xs a ∧ r = .string (s.extract a s.size) ∧ d = .string (frO (s.extract a s.size)) ∧ o = .bool (frB (s.extract a s.size) 0) ∧ wr.ownsRow w.heap.size 9 1 v xs.length (xs.map Value.string) ∧ Below w.heap.size w wr) (fun _ r _ _ _ => szOf r)
  case atStart => exact ⟨[], 0, .nil, by rw [HA.out], by rw [HA.out], by rw [HA.out], World.ownsRow_nil _ _ _ _, hb1⟩
  case round =>
    obtain ⟨xs, a, hrd, rfl, rfl, rfl, hown, hbel⟩ := hrel
    have HW : Hid (wr.ownsRow w.heap.size 9 1 u4 xs.length (xs.map Value.string)) := hown
    have HR : Hid (FRd s xs a) := hrd
    have hle := hrd.le
    have hmany := hrd.many
    clear hown hrd
    have HE : Hid (frB (s.extract a s.size) 0 = frB s a) := frB_extract hle
    cases hf : frB s a
    · have hE : frB (s.extract a s.size) 0 = false := by rw [HE.out, hf]
      have HF : Hid (frB s a = false) := hf
      have hzz : (s.extract a s.size).size = s.size - a := fext_size (Nat.le_refl _)
      have q : (s.size : Int) - ((s.size - a : Nat) : Int) = ((a : Nat) : Int) := by omega
      clear hf
      rw [hE]
      clear hE
      go_wp2_with fail
      refine bodyPost_ret (v := .tuple #[u4, .int .i64 (a : Nat)]) ?_ rfl ⟨xs, a, u4, rfl, HR.out, HF.out, HW.out, hbel⟩
      simp (maxDischargeDepth := 9) [results, Tryd.results8, go_sem, *]
    · have hE : frB (s.extract a s.size) 0 = true := by rw [HE.out, hf]
      have HF : Hid (frB s a = true) := hf
      obtain ⟨l1, l2, l3⟩ := frB_len hf
      have HD : Hid (frO (s.extract a s.size) = frD s a) := by show _ = _; unfold frO; rw [hE, if_pos rfl, frD_extract hf]
      have hdz := frD_size hf
      have hzz : (s.extract a s.size).size = s.size - a := fext_size (Nat.le_refl _)
      have HX : Hid ((s.extract a s.size).extract (8 + nAt s a) (s.extract a s.size).size = s.extract (a + 8 + nAt s a) s.size) := by
        show _ = _
        rw [hzz, ext_ext _ _ _ _ _ (by omega), show a + (8 + nAt s a) = a + 8 + nAt s a by omega, show a + (s.size - a) = s.size by omega]
      have HS : Hid (FRd s (xs ++ [frD s a]) (a + 8 + nAt s a)) := FRd.step HR.out hf
      clear hf
      rw [hE, HD.out]
      clear hE
      obtain ⟨d, HDD⟩ : ∃ d : ByteArray, Hid (d = frD s a) := ⟨_, rfl⟩
      rw [← HDD.out] at hdz HS ⊢
      obtain ⟨n, HN⟩ : ∃ n : Nat, Hid (n = nAt s a) := ⟨_, rfl⟩
      rw [← HN.out] at hdz HS HX l2 l3
      obtain ⟨r, HRR⟩ : ∃ r : ByteArray, Hid (r = s.extract a s.size) := ⟨_, rfl⟩
      rw [← HRR.out] at hzz HX ⊢
      obtain ⟨r2, HR2⟩ : ∃ r : ByteArray, Hid (r = s.extract (a + 8 + n) s.size) := ⟨_, rfl⟩
      have hz2' : r2.size = s.size - (a + 8 + n) := by rw [HR2.out, fext_size (Nat.le_refl _)]
      rw [← HR2.out] at HX
      have hX : r.extract (8 + n) (s.size - a) = r2 := by rw [← hzz]; exact HX.out
      have q1 : (8 : Int) + (n : Int) ≤ (r.size : Int) := by omega
      have q0 : (0 : Int) ≤ (8 : Int) + (n : Int) := by omega
      go_wp2_with (first
        | (at_builtin; refine wpList_append_own _ rfl _ _ 25 rfl w.heap.size 9 i0 (.string ⟨#[]⟩) 1 16 Tryd.underlying25 hi hz0 hz1 hz2 rfl (by decide) _ _ _ rfl (HW.out.alloc _) ⟨wr.heap.size, 0, none⟩ 1 1 [.string d] rfl rfl ?c1 ?c2 ?c3 ?c4 ?c5 ?_)
        | go_in)
      case c1 =>
        intro q u hq
        match q, hq with
        | 0, hq => simp at hq; subst hq; simp [Addr.add]
      case c2 => intro u hu; simp at hu; subst hu; rfl
      case c3 => unfold maxLen; omega
      case c4 => omega
      case c5 => have := hbel.size; simp; omega
      intro v' w1' hown' hgrow _
      have R2 := app_stepC HW.out hbel hgrow
      have HW' : Hid (w1'.ownsRow w.heap.size 9 1 v' (xs ++ [d]).length ((xs ++ [d]).map Value.string)) := by show World.ownsRow _ _ _ _ _ _ _; rw [List.map_append, List.length_append]; exact hown'
      clear hown' hgrow HW hbel
      have HC1 : Hid (CR w1') := HCR.out.of R2 hz
      go_wp2_with (go_at_call 21; refine (impl_firstFrame r2 (by omega) _ HC1.out).mono ?_; rintro e w2 ⟨rfl, k2, hk2⟩)
      have R3 : Below w.heap.size w (w1'.drewN k2) := below_drewN R2 _
      go_roundw
      case rel => exact ⟨xs ++ [d], a + 8 + n, HS.out, by rw [HR2.out], by rw [HR2.out], by rw [HR2.out], own_drewN HW'.out k2, R3⟩
      case measure => simp [szOf]; omega
end Go.Proofs.YtjkioadjclfmiaaDoor
