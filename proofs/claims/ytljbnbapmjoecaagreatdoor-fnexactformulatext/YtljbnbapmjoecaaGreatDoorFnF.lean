import Derived.Test.YtljbnbapmjoecaaGreatDoorFnMN
import Derived.Test.YtljbnbapmjoecaaGreatDoorFnA
namespace Go.Proofs.YtljbnbapmjoecaaGreatDoor
open Go.RowKit
set_option linter.unusedSimpArgs false

theorem loop_lo {T : Int → Int} : ∀ (ks : List Int) (at0 : Int), -1 ≤ at0 → -1 ≤ loopT T at0 ks
  | [], at0, h => by rw [loopT]; omega
  | k :: ks, at0, h => by
    rw [loopT]
    split
    · omega
    · split
      · omega
      · exact loop_lo ks _ (by omega)
theorem tree_lo (G : Nat → List Int) (i : Int) (h : 0 ≤ i) : -1 ≤ tree G i := by rw [tree_eq G i h]; exact loop_lo _ _ (by omega)
theorem take_rev (ks : List Int) (s : Nat) (h : s < ks.length) : (ks.take (s + 1)).reverse = ks.getD s 0 :: (ks.take s).reverse := by
  rw [List.take_succ_eq_append_getElem h, List.reverse_append, List.getD_eq_getElem?_getD, List.getElem?_eq_getElem h]; rfl
theorem deep_le {G : Nat → List Int} {n : Nat} (hG : InRange G n) : ∀ (m : Nat) (i : Int), 0 ≤ i → i < m → i < n → deep G i ≤ i + 1
  | 0, i, h0, h, _ => by omega
  | m + 1, i, h0, h, hn => by
    rw [deep_eq hG i h0 hn]
    have : maxL (deep G) 0 (G i.toNat) ≤ i := (maxL_le _ _ _).2 ⟨h0, fun k hk => by
      have hr := hG i.toNat (by omega) k hk
      have := deep_le hG m k (by omega) (by omega) (by omega)
      omega⟩
    omega
theorem maxL_snoc (D : Int → Int) (ks : List Int) (s : Nat) (h : s < ks.length) : maxL D 0 (ks.take (s + 1)) = max (maxL D 0 (ks.take s)) (D (ks.getD s 0)) := by
  rw [List.take_succ_eq_append_getElem h, maxL, List.foldl_append, List.getD_eq_getElem?_getD, List.getElem?_eq_getElem h]; rfl
/-- A node's kids, as they lie. -/
theorem kids_at {W : World} {A : Option Addr} {n : Nat} {F : Nat → FN} (h : FnRow W A n F) (i : Nat) (hi : i < n) : ∃ b o KA kc, A = some ⟨b, o, none⟩ ∧ b < W.heap.size ∧ W.cell? ⟨b, o + i * 14 + 13, none⟩ = some (.slice KA (F i).kids.length kc) ∧ W.cell? ⟨b, o + i * 14, none⟩ = some (.int .i64 (F i).k) ∧ IntRow W KA (F i).kids := by
  obtain ⟨b, o, KA, kc, e, hl, hnd, hk, _⟩ := h.2 i hi
  obtain ⟨c0, _, _, _, _, _, _, _, _, _, _, _, _, c13⟩ := hnd
  exact ⟨b, o, KA, kc, e, hl, c13, c0, hk⟩

set_option maxHeartbeats 4000000 in
theorem spec_l3Tree {A : Option Addr} {n cap : Nat} {F : Nat → FN} (w : World) (HR : Hid (FnRow w A n F)) (hn : n ≤ 1048576) (hkn : ∀ i, i < n → (F i).kids.length ≤ 1048576) : ∀ (m : Nat) (i : Nat), i < m → i < n →
    Calls Tryz.prog 48 #[.slice A n cap, .int .i64 i] w fun e w' => e = .returned (.int .i64 (tree (fun j => (F j).kids) i)) ∧ w' = w := by
  intro m
  induction m with
  | zero => intro i h; omega
  | succ m ih =>
    intro i him hin
    have IH : Hid (∀ (i : Nat), i < m → i < n → Calls Tryz.prog 48 #[.slice A n cap, .int .i64 i] w fun e w' => e = .returned (.int .i64 (tree (fun j => (F j).kids) i)) ∧ w' = w) := ih
    clear ih
    obtain ⟨b, o, KA, kc, rfl, hl, ck, _, hki⟩ := kids_at HR.out i hin
    obtain ⟨ks, HKS⟩ : ∃ ks, Hid ((F i).kids = ks) := ⟨_, rfl⟩
    have hkl := hkn i hin
    rw [HKS.out] at ck hki hkl
    have HKI : Hid (IntRow w KA ks) := hki
    obtain ⟨kl, HKL⟩ : ∃ kl, Hid (ks.length = kl) := ⟨_, rfl⟩
    rw [HKL.out] at ck hkl
    have HT : Hid (tree (fun j => (F j).kids) (i : Int) = loopT (tree (fun j => (F j).kids)) ((i : Int) - 1) ks.reverse) := by
      show _ = _
      rw [tree_eq _ _ (by omega)]
      simp [HKS.out]
    clear hki hkn
    have p0 : (0 : Int) ≤ (i : Int) := by omega
    have p1 : (i : Int) < (n : Int) := by omega
    go_enter Tryz.func48, Tryz.ntmps48
    go_wp2_with fail
    go_loop [5, 6, 7] (fun va vi _v => ∃ (t : Nat) (at0 : Int), t ≤ kl ∧ vi = .int .i64 ((t : Int) - 1) ∧ va = .int .i64 at0 ∧ -1 ≤ at0 ∧ at0 < i ∧ loopT (tree (fun j => (F j).kids)) ((i : Int) - 1) ks.reverse = loopT (tree (fun j => (F j).kids)) at0 (ks.take t).reverse) (fun _ vi _ => (intOf vi + 1).toNat)
    case atStart => exact ⟨kl, (i : Int) - 1, Nat.le_refl _, rfl, rfl, by omega, by omega, by rw [List.take_of_length_le (by rw [HKL.out]; exact Nat.le_refl _)]⟩
    case round =>
      obtain ⟨t, at0, ht, rfl, rfl, ha1, ha2, hlp⟩ := hrel
      have HLP : Hid (loopT (tree (fun j => (F j).kids)) ((i : Int) - 1) ks.reverse = loopT (tree (fun j => (F j).kids)) at0 (ks.take t).reverse) := hlp
      clear hlp
      match t, ht, HLP with
      | 0, ht, HLP =>
        go_wp2_with fail
        go_ret
        exact ⟨ret_int (by rw [HT.out, HLP.out]; simp [loopT]), rfl⟩
      | s + 1, ht, HLP =>
        have hs : s < ks.length := by rw [HKL.out]; omega
        have HLP2 : Hid (loopT (tree (fun j => (F j).kids)) ((i : Int) - 1) ks.reverse = loopT (tree (fun j => (F j).kids)) at0 (ks.getD s 0 :: (ks.take s).reverse)) := by rw [← take_rev ks s hs]; exact HLP.out
        clear HLP
        obtain ⟨b', o', rfl, hl', c1⟩ := HKI.out.2 s hs
        obtain ⟨z, HZ⟩ : ∃ z, Hid (ks.getD s 0 = z) := ⟨_, rfl⟩
        rw [HZ.out] at c1
        have s0 : (0 : Int) ≤ (s : Int) := by omega
        have s1 : (s : Int) < (kl : Int) := by omega
        have s2 : (0 : Int) ≤ (s : Int) + 1 - 1 := by omega
        by_cases hneg : at0 < 0
        · go_wp2_with fail
          go_ret
          exact ⟨ret_int (by rw [HT.out, HLP2.out, loopT, if_pos (Or.inl hneg)]), rfl⟩
        have hpos : 0 ≤ at0 := by omega
        by_cases hz : z = at0
        rotate_left
        · have hzn : (z != at0) = true := by simpa using hz
          have hzn2 : ¬ z = at0 := hz
          go_wp2_with fail
          go_ret
          exact ⟨ret_int (by rw [HT.out, HLP2.out, loopT, HZ.out, if_pos (Or.inr hz)]), rfl⟩
        subst hz
        obtain ⟨a, rfl⟩ : ∃ a : Nat, z = (a : Int) := ⟨z.toNat, by omega⟩
        have htl := tree_lo (fun j => (F j).kids) (a : Int) (by omega)
        have hth := tree_le' (fun j => (F j).kids) (a : Int) (by omega)
        have HLP3 : Hid (loopT (tree (fun j => (F j).kids)) ((i : Int) - 1) ks.reverse = if tree (fun j => (F j).kids) (a : Int) < 0 then -1 else loopT (tree (fun j => (F j).kids)) (tree (fun j => (F j).kids) (a : Int) - 1) (ks.take s).reverse) := by
          show _ = _
          rw [HLP2.out, HZ.out, loopT, if_neg (by omega)]
        clear HLP2
        obtain ⟨y, HY⟩ : ∃ y, Hid (tree (fun j => (F j).kids) (a : Int) = y) := ⟨_, rfl⟩
        rw [HY.out] at htl hth
        by_cases hy : y < 0
        · go_wp2_with (go_at_call 48; refine (IH.out a (by omega) (by omega)).mono ?_; rintro e w1 ⟨rfl, hw⟩; subst hw; rw [HY.out])
          go_ret
          exact ⟨ret_int (by rw [HT.out, HLP3.out, HY.out, if_pos hy]), rfl⟩
        · go_wp2_with (go_at_call 48; refine (IH.out a (by omega) (by omega)).mono ?_; rintro e w1 ⟨rfl, hw⟩; subst hw; rw [HY.out])
          go_round
          case rel => exact ⟨s, y - 1, by omega, by first | rfl | (congr 1; omega), rfl, by omega, by omega, by rw [HLP3.out, HY.out, if_neg (by omega)]⟩
          case measure => first | (simp [intOf]; done) | (simp [intOf]; omega)

set_option maxHeartbeats 4000000 in
theorem spec_l3Deep {A : Option Addr} {n cap : Nat} {F : Nat → FN} (w : World) (HR : Hid (FnRow w A n F)) (hn : n ≤ 1048576) (hkn : ∀ i, i < n → (F i).kids.length ≤ 1048576) (HG : Hid (InRange (fun j => (F j).kids) n)) : ∀ (m : Nat) (i : Nat), i < m → i < n →
    Calls Tryz.prog 49 #[.slice A n cap, .int .i64 i] w fun e w' => e = .returned (.int .i64 (deep (fun j => (F j).kids) i)) ∧ w' = w := by
  intro m
  induction m with
  | zero => intro i h; omega
  | succ m ih =>
    intro i him hin
    have IH : Hid (∀ (i : Nat), i < m → i < n → Calls Tryz.prog 49 #[.slice A n cap, .int .i64 i] w fun e w' => e = .returned (.int .i64 (deep (fun j => (F j).kids) i)) ∧ w' = w) := ih
    clear ih
    obtain ⟨b, o, KA, kc, rfl, hl, ck, _, hki⟩ := kids_at HR.out i hin
    obtain ⟨ks, HKS⟩ : ∃ ks, Hid ((F i).kids = ks) := ⟨_, rfl⟩
    have hkl := hkn i hin
    rw [HKS.out] at ck hki hkl
    have HKI : Hid (IntRow w KA ks) := hki
    obtain ⟨kl, HKL⟩ : ∃ kl, Hid (ks.length = kl) := ⟨_, rfl⟩
    rw [HKL.out] at ck hkl
    have HD : Hid (deep (fun j => (F j).kids) (i : Int) = maxL (deep (fun j => (F j).kids)) 0 ks + 1) := by
      show _ = _
      rw [deep_eq HG.out _ (by omega) (by omega)]
      simp [HKS.out]
    clear hki hkn
    have p0 : (0 : Int) ≤ (i : Int) := by omega
    have p1 : (i : Int) < (n : Int) := by omega
    go_enter Tryz.func49, Tryz.ntmps49
    go_wp2_with fail
    go_loop [5, 6] (fun vd vi => ∃ (t : Nat) (d : Int), t ≤ kl ∧ vi = .int .i64 (t : Int) ∧ vd = .int .i64 d ∧ 0 ≤ d ∧ d ≤ i ∧ d = maxL (deep (fun j => (F j).kids)) 0 (ks.take t)) (fun _ vi => kl - (intOf vi).toNat)
    case atStart => exact ⟨0, 0, Nat.zero_le _, rfl, rfl, by omega, by omega, rfl⟩
    case round =>
      obtain ⟨t, d, ht, rfl, rfl, hd0, hd1, hd⟩ := hrel
      have HDD : Hid (d = maxL (deep (fun j => (F j).kids)) 0 (ks.take t)) := hd
      clear hd
      by_cases hlt : t < kl
      · have hs : t < ks.length := by rw [HKL.out]; exact hlt
        obtain ⟨b', o', rfl, hl', c1⟩ := HKI.out.2 t hs
        have hmem : ks.getD t 0 ∈ ks := by rw [List.getD_eq_getElem?_getD, List.getElem?_eq_getElem hs]; exact List.getElem_mem hs
        have hr := HG.out i hin (ks.getD t 0) (by show _ ∈ (F i).kids; rw [HKS.out]; exact hmem)
        obtain ⟨a, HA⟩ : ∃ a : Nat, Hid (ks.getD t 0 = (a : Int)) := ⟨(ks.getD t 0).toNat, by show _ = _; omega⟩
        have hai : (a : Int) < i := by rw [HA.out] at hr; exact hr.2
        rw [HA.out] at c1
        clear hmem hr
        have hdp := deep_pos (fun j => (F j).kids) (a : Int)
        have hdl := deep_le HG.out (a + 1) (a : Int) (by omega) (by omega) (by omega)
        have HM := maxL_snoc (deep (fun j => (F j).kids)) ks t hs
        rw [HA.out, ← HDD.out] at HM
        obtain ⟨y, HY⟩ : ∃ y, Hid (deep (fun j => (F j).kids) (a : Int) = y) := ⟨_, rfl⟩
        rw [HY.out] at hdp hdl HM
        have HM2 : Hid (maxL (deep (fun j => (F j).kids)) 0 (ks.take (t + 1)) = max d y) := HM
        clear HM
        have s0 : (0 : Int) ≤ (t : Int) := by omega
        have s1 : (t : Int) < (kl : Int) := by omega
        by_cases hy : d < y
        · go_wp2_with (go_at_call 49; refine (IH.out a (by omega) (by omega)).mono ?_; rintro e w1 ⟨rfl, hw⟩; subst hw; rw [HY.out])
          all_goals
            go_round
            case rel => exact ⟨t + 1, y, by omega, by first | rfl | go_num, by first | rfl | (congr 1; omega), by omega, by omega, by rw [HM2.out]; omega⟩
            case measure => first | (simp [intOf]; done) | (simp [intOf]; omega)
        · go_wp2_with (go_at_call 49; refine (IH.out a (by omega) (by omega)).mono ?_; rintro e w1 ⟨rfl, hw⟩; subst hw; rw [HY.out])
          all_goals
            go_round
            case rel => exact ⟨t + 1, d, by omega, by first | rfl | go_num, by first | rfl | (congr 1; omega), by omega, by omega, by rw [HM2.out]; omega⟩
            case measure => first | (simp [intOf]; done) | (simp [intOf]; omega)
      · have s1 : ¬ (t : Int) < (kl : Int) := by omega
        obtain rfl : t = kl := by omega
        go_wp2_with fail
        go_ret
        exact ⟨ret_int (by rw [HD.out, HDD.out, List.take_of_length_le (by rw [HKL.out]; exact Nat.le_refl _)]), rfl⟩

set_option maxHeartbeats 2000000 in
theorem slices_Equal {A A' : Option Addr} {cap cap' : Nat} {l l' : List Int} (d : Bool) (w : World) (h : IntRow w A l) (h' : IntRow w A' l') (HD : Hid (decide (l = l') = d)) :
    Calls Tryz.prog 101 #[.slice A l.length cap, .slice A' l'.length cap'] w fun e w' => e = .returned (.bool d) ∧ Below w.heap.size w w' := by
  have HR : Hid (IntRow w A l) := h
  have HR' : Hid (IntRow w A' l') := h'
  have hn := h.1
  have hn' := h'.1
  unfold maxLen at hn hn'
  clear h h'
  obtain ⟨n, HL⟩ : ∃ n, Hid (l.length = n) := ⟨_, rfl⟩
  obtain ⟨n', HL'⟩ : ∃ n, Hid (l'.length = n) := ⟨_, rfl⟩
  rw [HL.out] at hn ⊢
  rw [HL'.out] at hn' ⊢
  by_cases hq : n = n'
  rotate_left
  · have hne : ((n : Int) != (n' : Int)) = true := by simp; omega
    have HF : Hid (d = false) := by
      show _ = _
      rw [← HD.out]
      simp only [decide_eq_false_iff_not]
      intro e
      exact hq (by rw [← HL.out, ← HL'.out, e])
    go_enter Tryz.func101, Tryz.ntmps101
    go_wp2_with fail
    go_ret
    exact ⟨ret_bool HF.out.symm, by go_grown⟩
  subst hq
  go_enter Tryz.func101, Tryz.ntmps101
  go_wp2_with fail
  go_loopw [13] (fun i wr => ∃ k : Nat, k ≤ n ∧ i = .int .i64 k ∧ (∀ j, j < k → l.getD j 0 = l'.getD j 0) ∧ Below w.heap.size w wr) (fun i _ => n - (intOf i).toNat)
  case atStart => exact ⟨0, Nat.zero_le _, rfl, fun j hj => by omega, Below.refl _ _⟩
  case round =>
    obtain ⟨k, hk, rfl, hsm, hbel⟩ := hrel
    have HSM : Hid (∀ j, j < k → l.getD j 0 = l'.getD j 0) := hsm
    clear hsm
    by_cases hlt : k < n
    · obtain ⟨b, o, rfl, hl, c0⟩ := HR.out.2 k (by rw [HL.out]; exact hlt)
      obtain ⟨b', o', rfl, hl', c0'⟩ := HR'.out.2 k (by rw [HL'.out]; exact hlt)
      rw [← hbel.cell (p := ⟨_, _, none⟩) hl] at c0
      rw [← hbel.cell (p := ⟨_, _, none⟩) hl'] at c0'
      obtain ⟨z, HZ⟩ : ∃ z, Hid (l.getD k 0 = z) := ⟨_, rfl⟩
      obtain ⟨z', HZ'⟩ : ∃ z, Hid (l'.getD k 0 = z) := ⟨_, rfl⟩
      rw [HZ.out] at c0
      rw [HZ'.out] at c0'
      have h0 : (0 : Int) ≤ (k : Int) := by omega
      have h1 : (k : Int) < (n : Int) := by omega
      by_cases hz : z = z'
      · subst hz
        go_wp2_with fail
        go_region
        all_goals go_wp2_with fail
        all_goals
          go_roundw
          case rel => exact ⟨k + 1, by omega, by go_num, fun j hj => by
            by_cases e : j = k
            · subst e; rw [HZ.out, HZ'.out]
            · exact HSM.out j (by omega), by go_grown⟩
          case measure => simp [intOf]; omega
      · have hzn : (z != z') = true := by simpa using hz
        have HF : Hid (d = false) := by
          show _ = _
          rw [← HD.out]
          simp only [decide_eq_false_iff_not]
          intro e
          exact hz (by rw [← HZ.out, ← HZ'.out, e])
        go_wp2_with fail
        go_region
        all_goals go_wp2_with fail
        all_goals
          go_ret
          exact ⟨ret_bool HF.out.symm, by go_grown⟩
    · have h1 : ¬ (k : Int) < (n : Int) := by omega
      obtain rfl : k = n := by omega
      have HF : Hid (d = true) := by
        show _ = _
        rw [← HD.out]
        simp only [decide_eq_true_eq]
        apply List.ext_getElem (by rw [HL.out, HL'.out])
        intro j h1 h2
        have := HSM.out j (by rw [← HL.out]; exact h1)
        rw [List.getD_eq_getElem?_getD, List.getD_eq_getElem?_getD, List.getElem?_eq_getElem h1, List.getElem?_eq_getElem h2] at this
        exact this
      go_wp2_with fail
      go_ret
      exact ⟨ret_bool HF.out.symm, hbel⟩
end Go.Proofs.YtljbnbapmjoecaaGreatDoor
