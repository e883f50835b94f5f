import Derived.Test.YtelehnemlejcoaaGreatDoorGaa
import Derived.Test.YtelehnemlejcoaaGreatDoorMn
import Derived.BigQuiet
import Derived.Deep.DeepCutAuto
import Derived.Deep.RegionHeld3
import Derived.Laws.Concat
import Derived.Test.YtelehnemlejcoaaGreatDoorGzf
set_option linter.unusedSimpArgs false
set_option linter.unusedVariables false
namespace Go.Proofs.YtelehnemlejcoaaGreatDoor
open Go.RowKit
def lowB (b : UInt8) : Bool := decide (97 ≤ b.toNat ∧ b.toNat ≤ 122)
def lowTo (s : ByteArray) (k : Nat) : Prop := ∀ j (h : j < s.size), j < k → lowB (s[j]'h) = true
theorem lowTo_zero (s : ByteArray) : lowTo s 0 := fun j _ h => absurd h (Nat.not_lt_zero _)
theorem lowTo_succ {s : ByteArray} {k : Nat} (h : k < s.size) (hl : lowTo s k) (h1 : 97 ≤ (s[k]'h).toNat) (h2 : (s[k]'h).toNat ≤ 122) : lowTo s (k + 1) := fun j hj hk => by
  by_cases e : j = k
  · subst e; exact decide_eq_true ⟨h1, h2⟩
  · exact hl j hj (by omega)
def nmB (s : ByteArray) : Bool := decide (1 ≤ s.size ∧ s.size ≤ 12) && s.data.toList.all lowB
theorem nmB_all {s : ByteArray} (h : lowTo s s.size) : s.data.toList.all lowB = true := by
  rw [List.all_eq_true]
  intro b hb
  obtain ⟨i, hi, rfl⟩ := List.mem_iff_getElem.1 hb
  exact h i (by simpa using hi) (by simpa using hi)
theorem nmB_no {s : ByteArray} {k : Nat} (h : k < s.size) (hl : (s[k]'h).toNat < 97 ∨ 122 < (s[k]'h).toNat) : nmB s = false := by
  have e : s.data.toList.all lowB = false := by
    cases e : s.data.toList.all lowB with
    | false => rfl
    | true =>
      have h9 := List.all_eq_true.1 e (s[k]'h) (List.mem_iff_getElem.2 ⟨k, by simpa using h, rfl⟩)
      have := of_decide_eq_true h9
      omega
  rw [nmB, e, Bool.and_false]
theorem nmB_len {s : ByteArray} (h : s.size < 1 ∨ 12 < s.size) : nmB s = false := by
  rw [nmB, decide_eq_false (by omega), Bool.false_and]
theorem nmB_yes {s : ByteArray} (h : lowTo s s.size) (h1 : 1 ≤ s.size) (h2 : s.size ≤ 12) : nmB s = true := by
  rw [nmB, nmB_all h, decide_eq_true ⟨h1, h2⟩]; rfl
theorem nmB_size {s : ByteArray} (h : nmB s = true) : 1 ≤ s.size ∧ s.size ≤ 12 := by
  simp only [nmB, Bool.and_eq_true, decide_eq_true_eq] at h
  exact h.1
set_option maxRecDepth 100000 in
set_option maxHeartbeats 2000000 in
theorem impl_isName (s : ByteArray) (w : World) (hs : s.size ≤ maxLen) : Calls Tryz.prog 24 #[.string s] w fun e w' => e = .returned (.bool (nmB s)) ∧ w' = w := by
  unfold maxLen at hs
  go_enter Tryz.func24, Tryz.ntmps24
  go_wp2_with fail
  go_loopw [6] (fun i wr => ∃ k : Nat, k ≤ s.size ∧ i = .int .i64 k ∧ lowTo s k ∧ wr = w) (fun i _ => s.size - (intOf i).toNat)
  case atStart => exact ⟨0, Nat.zero_le _, rfl, lowTo_zero s, rfl⟩
  case round =>
    obtain ⟨k, hk, rfl, hall, hw⟩ := hrel
    subst wr
    have HA : Hid (lowTo s k) := hall
    clear hall
    by_cases hlt : k < s.size
    · have h0 : (0 : Int) ≤ (k : Int) := by omega
      have h1 : (k : Int) < (s.size : Int) := by omega
      by_cases hlo : ((s[k]'hlt).toNat : Int) < 97
      · go_wp2_with fail
        go_ret
        exact ⟨ret_bool (nmB_no hlt (Or.inl (by omega))).symm, rfl⟩
      by_cases hhi : (122 : Int) < ((s[k]'hlt).toNat : Int)
      · go_wp2_with fail
        go_ret
        exact ⟨ret_bool (nmB_no hlt (Or.inr (by omega))).symm, rfl⟩
      go_wp2_with fail
      go_roundw
      case rel => exact ⟨k + 1, by omega, by go_num, lowTo_succ hlt HA.out (by omega) (by omega), trivial⟩
      case measure => simp [intOf]; omega
    · have h1 : ¬ (k : Int) < (s.size : Int) := by omega
      obtain rfl : k = s.size := by omega
      by_cases g1 : 1 ≤ (s.size : Int)
      · by_cases g2 : (s.size : Int) ≤ 12
        · go_wp2_with fail
          go_ret
          exact ⟨ret_bool (nmB_yes HA.out (by omega) (by omega)).symm, rfl⟩
        · go_wp2_with fail
          go_ret
          exact ⟨ret_bool (nmB_len (Or.inr (by omega))).symm, rfl⟩
      · go_wp2_with fail
        go_ret
        exact ⟨ret_bool (nmB_len (Or.inl (by omega))).symm, rfl⟩
set_option maxRecDepth 100000 in
set_option maxHeartbeats 2000000 in
theorem spec_l10Name (s : ByteArray) (w : World) (hs : s.size ≤ maxLen) : Calls Tryz.prog 19 #[.string s] w fun e w' => e = .returned (.bool (nmB s)) ∧ w' = w := by
  unfold maxLen at hs
  by_cases g1 : (s.size : Int) < 1
  · go_enter Tryz.func19, Tryz.ntmps19
    go_wp2_with fail
    go_ret
    exact ⟨ret_bool (nmB_len (Or.inl (by omega))).symm, rfl⟩
  by_cases g2 : (12 : Int) < (s.size : Int)
  · go_enter Tryz.func19, Tryz.ntmps19
    go_wp2_with fail
    go_ret
    exact ⟨ret_bool (nmB_len (Or.inr (by omega))).symm, rfl⟩
  go_enter Tryz.func19, Tryz.ntmps19
  go_wp2_with fail
  go_loopw [3] (fun i wr => ∃ k : Nat, k ≤ s.size ∧ i = .int .i64 k ∧ lowTo s k ∧ wr = w) (fun i _ => s.size - (intOf i).toNat)
  case atStart => exact ⟨0, Nat.zero_le _, rfl, lowTo_zero s, rfl⟩
  case round =>
    obtain ⟨k, hk, rfl, hall, hw⟩ := hrel
    subst wr
    have HA : Hid (lowTo s k) := hall
    clear hall
    by_cases hlt : k < s.size
    · have h0 : (0 : Int) ≤ (k : Int) := by omega
      have h1 : (k : Int) < (s.size : Int) := by omega
      by_cases hlo : ((s[k]'hlt).toNat : Int) < 97
      · go_wp2_with fail
        go_ret
        exact ⟨ret_bool (nmB_no hlt (Or.inl (by omega))).symm, rfl⟩
      by_cases hhi : (122 : Int) < ((s[k]'hlt).toNat : Int)
      · go_wp2_with fail
        go_ret
        exact ⟨ret_bool (nmB_no hlt (Or.inr (by omega))).symm, rfl⟩
      go_wp2_with fail
      go_roundw
      case rel => exact ⟨k + 1, by omega, by go_num, lowTo_succ hlt HA.out (by omega) (by omega), trivial⟩
      case measure => simp [intOf]; omega
    · have h1 : ¬ (k : Int) < (s.size : Int) := by omega
      obtain rfl : k = s.size := by omega
      go_wp2_with fail
      go_ret
      exact ⟨ret_bool (nmB_yes HA.out (by omega) (by omega)).symm, rfl⟩
end Go.Proofs.YtelehnemlejcoaaGreatDoor
namespace Go.Proofs.YtelehnemlejcoaaGreatDoor
open Go.RowKit
def cmC (k : Int) (nb b1 b2 b0 mb zb eo en ob : Bool) : Bool := if k = 1 then nb && (b1 && (b2 && (mb && eo))) else if k = 2 then nb && (b1 && (b2 && (zb && eo))) else if k = 3 then nb && (b0 && (zb && ob)) else if k = 4 then en && (b0 && (zb && eo)) else false
def cmB (k : Int) (s o : ByteArray) (b : Int) (mb : Bool) (n : Nat) : Bool := cmC k (nmB s) (decide (1 ≤ b)) (decide (b ≤ 1000000000)) (decide (b = 0)) mb (decide (n = 0)) o.toList.isEmpty s.toList.isEmpty (nmB o)
theorem cm_box (w : World) (k : Int) (s o : ByteArray) (b : Int) (A : Option Addr) (n cap : Nat) : ∃ X, Hid (w.alloc (.cells #[.int .i64 k, .string s, .string o, .int .i64 b, .slice A n cap] 29) = X) ∧ X.cell? ⟨w.heap.size, 0, none⟩ = some (.int .i64 k) ∧ X.cell? ⟨w.heap.size, 1, none⟩ = some (.string s) ∧ X.cell? ⟨w.heap.size, 2, none⟩ = some (.string o) ∧
    X.cell? ⟨w.heap.size, 3, none⟩ = some (.int .i64 b) ∧ X.cell? ⟨w.heap.size, 4, none⟩ = some (.slice A n cap) ∧ w.heap.size < X.heap.size ∧ Hid (Below w.heap.size w X) :=
  ⟨_, rfl, by go_simp, by go_simp, by go_simp, by go_simp, by go_simp, by simp, by show Below _ _ _; go_grown⟩
theorem below_dN {B : Nat} {w X : World} (h : Below B w X) (n : Nat) : Below B w (X.drewN n) := ⟨h.1, h.2, h.3, h.4, h.5⟩
set_option maxRecDepth 100000 in
set_option maxHeartbeats 8000000 in
theorem impl_cmRight (k : Int) (s o : ByteArray) (b : Int) (A : Option Addr) (n cap : Nat) (mb : Bool) (w : World) (hs : s.size ≤ maxLen) (ho : o.size ≤ maxLen)
    (HM : ∀ W, Below w.heap.size w W → Calls Tryz.prog 25 #[.slice A n cap] W fun e w' => e = .returned (.bool mb) ∧ Below W.heap.size W w') :
    Calls Tryz.prog 14 #[.agg #[.int .i64 k, .string s, .string o, .int .i64 b, .slice A n cap]] w fun e w' => e = .returned (.bool (cmB k s o b mb n)) ∧ Below w.heap.size w w' := by
  have HMM : Hid (∀ W, Below w.heap.size w W → Calls Tryz.prog 25 #[.slice A n cap] W fun e w' => e = .returned (.bool mb) ∧ Below W.heap.size W w') := HM
  have HS : Hid (s.size ≤ maxLen) := hs
  have HO : Hid (o.size ≤ maxLen) := ho
  obtain ⟨nb, HNB⟩ : ∃ b, Hid (nmB s = b) := ⟨_, rfl⟩
  obtain ⟨ob, HOB⟩ : ∃ b, Hid (nmB o = b) := ⟨_, rfl⟩
  clear HM hs ho
  by_cases hb1 : 1 ≤ b
  · by_cases hb2 : b ≤ 1000000000
    · have hb0 : ¬ b = 0 := by omega
      have hbq : (b == 0) = false := by simpa using hb0
      go_enter Tryz.func14, Tryz.ntmps14
      go_upto_region 1 with fail
      obtain ⟨X, HX, c_0, c_1, c_2, c_3, c_4, zX, KX⟩ := cm_box w k s o b A n cap
      rw [HX.out]
      clear HX
      go_region_held3 (fun w' => (∀ bq oq, bq < X.heap.size → w'.cell? ⟨bq, oq, none⟩ = X.cell? ⟨bq, oq, none⟩) ∧ X.heap.size ≤ w'.heap.size ∧ Below X.heap.size X w')
        (exact sc_of (Nat.le_refl _) (by go_grown))
        (first | (go_at_call 24; refine (impl_isName s _ HS.out).mono ?_; rintro e w1 ⟨rfl, hw⟩; subst w1; rw [HNB.out]))
      by_cases e1 : k = 1
      · subst e1
        cases nb
        · go_wp2_with fail
          go_ret
          exact ⟨ret_bool (by simp [cmB, cmC, HNB.out, HOB.out, *] <;> (intros; omega)), by first | exact KX.out | exact below_dN KX.out _⟩
        · go_wp2_with fail
          refine (HMM.out _ (by first | exact KX.out | exact below_dN KX.out _)).mono ?_
          rintro e u ⟨rfl, hb⟩
          replace c_2 : u.cell? ⟨w.heap.size, 2, none⟩ = some (.string o) := cy hb c_2
          have KU : Hid (Below w.heap.size w u) := bchain (by first | exact KX.out | exact below_dN KX.out _) hb
          have zU : w.heap.size < u.heap.size := Nat.lt_of_lt_of_le zX hb.size
          clear hb c_0 c_1 c_3 c_4
          cases mb
          · go_wp2_with fail
            go_ret
            exact ⟨ret_bool (by simp [cmB, cmC, HNB.out, HOB.out, *] <;> (intros; omega)), by first | exact KU.out | exact below_dN KU.out _⟩
          · cases eo : o.toList.isEmpty
            · go_wp2_with fail
              go_ret
              exact ⟨ret_bool (by simp [cmB, cmC, HNB.out, HOB.out, *] <;> (intros; omega)), by first | exact KU.out | exact below_dN KU.out _⟩
            · go_wp2_with fail
              go_ret
              exact ⟨ret_bool (by simp [cmB, cmC, HNB.out, HOB.out, *] <;> (intros; omega)), by first | exact KU.out | exact below_dN KU.out _⟩
      by_cases e2 : k = 2
      · subst e2
        cases nb
        · go_wp2_with fail
          go_ret
          exact ⟨ret_bool (by simp [cmB, cmC, HNB.out, HOB.out, *] <;> (intros; omega)), by first | exact KX.out | exact below_dN KX.out _⟩
        · by_cases hn0 : (n : Int) = 0
          · have hnn : n = 0 := by omega
            have hnx : ((n : Int) == 0) = true := by simpa using hn0
            cases eo : o.toList.isEmpty
            · go_wp2_with fail
              go_ret
              exact ⟨ret_bool (by simp [cmB, cmC, HNB.out, HOB.out, *] <;> (intros; omega)), by first | exact KX.out | exact below_dN KX.out _⟩
            · go_wp2_with fail
              go_ret
              exact ⟨ret_bool (by simp [cmB, cmC, HNB.out, HOB.out, *] <;> (intros; omega)), by first | exact KX.out | exact below_dN KX.out _⟩
          · have hnn : ¬ n = 0 := by omega
            have hnx : ((n : Int) == 0) = false := by simpa using hn0
            go_wp2_with fail
            go_ret
            exact ⟨ret_bool (by simp [cmB, cmC, HNB.out, HOB.out, *] <;> (intros; omega)), by first | exact KX.out | exact below_dN KX.out _⟩
      by_cases e3 : k = 3
      · subst e3
        cases nb
        · go_wp2_with fail
          go_ret
          exact ⟨ret_bool (by simp [cmB, cmC, HNB.out, HOB.out, *] <;> (intros; omega)), by first | exact KX.out | exact below_dN KX.out _⟩
        · go_wp2_with fail
          go_ret
          exact ⟨ret_bool (by simp [cmB, cmC, HNB.out, HOB.out, *] <;> (intros; omega)), by first | exact KX.out | exact below_dN KX.out _⟩
      by_cases e4 : k = 4
      · subst e4
        cases en : s.toList.isEmpty
        · go_wp2_with fail
          go_ret
          exact ⟨ret_bool (by simp [cmB, cmC, HNB.out, HOB.out, *] <;> (intros; omega)), by first | exact KX.out | exact below_dN KX.out _⟩
        · go_wp2_with fail
          go_ret
          exact ⟨ret_bool (by simp [cmB, cmC, HNB.out, HOB.out, *] <;> (intros; omega)), by first | exact KX.out | exact below_dN KX.out _⟩
      have f1 : (k == 1) = false := by simpa using e1
      have f2 : (k == 2) = false := by simpa using e2
      have f3 : (k == 3) = false := by simpa using e3
      have f4 : (k == 4) = false := by simpa using e4
      go_wp2_with fail
      go_ret
      exact ⟨ret_bool (by simp [cmB, cmC, HNB.out, HOB.out, *] <;> (intros; omega)), by first | exact KX.out | exact below_dN KX.out _⟩
    · have hb0 : ¬ b = 0 := by omega
      have hbq : (b == 0) = false := by simpa using hb0
      go_enter Tryz.func14, Tryz.ntmps14
      go_upto_region 1 with fail
      obtain ⟨X, HX, c_0, c_1, c_2, c_3, c_4, zX, KX⟩ := cm_box w k s o b A n cap
      rw [HX.out]
      clear HX
      go_region_held3 (fun w' => (∀ bq oq, bq < X.heap.size → w'.cell? ⟨bq, oq, none⟩ = X.cell? ⟨bq, oq, none⟩) ∧ X.heap.size ≤ w'.heap.size ∧ Below X.heap.size X w')
        (exact sc_of (Nat.le_refl _) (by go_grown))
        (first | (go_at_call 24; refine (impl_isName s _ HS.out).mono ?_; rintro e w1 ⟨rfl, hw⟩; subst w1; rw [HNB.out]))
      by_cases e1 : k = 1
      · subst e1
        cases nb
        · go_wp2_with fail
          go_ret
          exact ⟨ret_bool (by simp [cmB, cmC, HNB.out, HOB.out, *] <;> (intros; omega)), by first | exact KX.out | exact below_dN KX.out _⟩
        · go_wp2_with fail
          go_ret
          exact ⟨ret_bool (by simp [cmB, cmC, HNB.out, HOB.out, *] <;> (intros; omega)), by first | exact KX.out | exact below_dN KX.out _⟩
      by_cases e2 : k = 2
      · subst e2
        cases nb
        · go_wp2_with fail
          go_ret
          exact ⟨ret_bool (by simp [cmB, cmC, HNB.out, HOB.out, *] <;> (intros; omega)), by first | exact KX.out | exact below_dN KX.out _⟩
        · go_wp2_with fail
          go_ret
          exact ⟨ret_bool (by simp [cmB, cmC, HNB.out, HOB.out, *] <;> (intros; omega)), by first | exact KX.out | exact below_dN KX.out _⟩
      by_cases e3 : k = 3
      · subst e3
        cases nb
        · go_wp2_with fail
          go_ret
          exact ⟨ret_bool (by simp [cmB, cmC, HNB.out, HOB.out, *] <;> (intros; omega)), by first | exact KX.out | exact below_dN KX.out _⟩
        · go_wp2_with fail
          go_ret
          exact ⟨ret_bool (by simp [cmB, cmC, HNB.out, HOB.out, *] <;> (intros; omega)), by first | exact KX.out | exact below_dN KX.out _⟩
      by_cases e4 : k = 4
      · subst e4
        cases en : s.toList.isEmpty
        · go_wp2_with fail
          go_ret
          exact ⟨ret_bool (by simp [cmB, cmC, HNB.out, HOB.out, *] <;> (intros; omega)), by first | exact KX.out | exact below_dN KX.out _⟩
        · go_wp2_with fail
          go_ret
          exact ⟨ret_bool (by simp [cmB, cmC, HNB.out, HOB.out, *] <;> (intros; omega)), by first | exact KX.out | exact below_dN KX.out _⟩
      have f1 : (k == 1) = false := by simpa using e1
      have f2 : (k == 2) = false := by simpa using e2
      have f3 : (k == 3) = false := by simpa using e3
      have f4 : (k == 4) = false := by simpa using e4
      go_wp2_with fail
      go_ret
      exact ⟨ret_bool (by simp [cmB, cmC, HNB.out, HOB.out, *] <;> (intros; omega)), by first | exact KX.out | exact below_dN KX.out _⟩
  · by_cases hb0 : b = 0
    · subst hb0
      go_enter Tryz.func14, Tryz.ntmps14
      go_upto_region 1 with fail
      obtain ⟨X, HX, c_0, c_1, c_2, c_3, c_4, zX, KX⟩ := cm_box w k s o 0 A n cap
      rw [HX.out]
      clear HX
      refine wp_region_held_drew (S := (fun w' => (∀ bq oq, bq < X.heap.size → w'.cell? ⟨bq, oq, none⟩ = X.cell? ⟨bq, oq, none⟩) ∧ X.heap.size ≤ w'.heap.size ∧ Below X.heap.size X w')) (by kernel_rfl) (sc_of (Nat.le_refl _) (Below.refl _ _).drew) (fun hHeld => ?_)
      refine tkA 0 ?_; try simp only [Act.put, List.getElem_toArray, List.getElem_cons_zero, List.getElem_cons_succ, List.setIfInBounds_toArray, List.set_cons_zero, List.set_cons_succ]
      refine tkA 1 ?_; try simp only [Act.put, List.getElem_toArray, List.getElem_cons_zero, List.getElem_cons_succ, List.setIfInBounds_toArray, List.set_cons_zero, List.set_cons_succ]
      refine tkA 3 ?_; try simp only [Act.put, List.getElem_toArray, List.getElem_cons_zero, List.getElem_cons_succ, List.setIfInBounds_toArray, List.set_cons_zero, List.set_cons_succ]
      refine tkA 4 ?_; try simp only [Act.put, List.getElem_toArray, List.getElem_cons_zero, List.getElem_cons_succ, List.setIfInBounds_toArray, List.set_cons_zero, List.set_cons_succ]
      refine tkA 5 ?_; try simp only [Act.put, List.getElem_toArray, List.getElem_cons_zero, List.getElem_cons_succ, List.setIfInBounds_toArray, List.set_cons_zero, List.set_cons_succ]
      refine rqA 2 (fun Kq hKq => ?_)
      go_simp
      refine (impl_isName s _ HS.out).mono ?_
      rintro e w1 ⟨rfl, hw⟩
      subst w1
      rw [HNB.out]
      refine hKq.out _ _ ?_ (fun hHeld => ?_)
      · exact sc_of (Nat.le_refl _) (by go_grown)
      clear hKq Kq
      try simp only [Act.put, List.getElem_toArray, List.getElem_cons_zero, List.getElem_cons_succ, List.setIfInBounds_toArray, List.set_cons_zero, List.set_cons_succ]
      refine tkA 6 ?_; try simp only [Act.put, List.getElem_toArray, List.getElem_cons_zero, List.getElem_cons_succ, List.setIfInBounds_toArray, List.set_cons_zero, List.set_cons_succ]
      refine tnA 7 ?_; try simp only [Act.put, List.getElem_toArray, List.getElem_cons_zero, List.getElem_cons_succ, List.setIfInBounds_toArray, List.set_cons_zero, List.set_cons_succ]
      refine tnA 8 ?_; try simp only [Act.put, List.getElem_toArray, List.getElem_cons_zero, List.getElem_cons_succ, List.setIfInBounds_toArray, List.set_cons_zero, List.set_cons_succ]
      refine tnA 9 ?_; try simp only [Act.put, List.getElem_toArray, List.getElem_cons_zero, List.getElem_cons_succ, List.setIfInBounds_toArray, List.set_cons_zero, List.set_cons_succ]
      refine tkA 10 ?_; try simp only [Act.put, List.getElem_toArray, List.getElem_cons_zero, List.getElem_cons_succ, List.setIfInBounds_toArray, List.set_cons_zero, List.set_cons_succ]
      refine tkA 11 ?_; try simp only [Act.put, List.getElem_toArray, List.getElem_cons_zero, List.getElem_cons_succ, List.setIfInBounds_toArray, List.set_cons_zero, List.set_cons_succ]
      refine tkA 12 ?_; try simp only [Act.put, List.getElem_toArray, List.getElem_cons_zero, List.getElem_cons_succ, List.setIfInBounds_toArray, List.set_cons_zero, List.set_cons_succ]
      refine wpAnyH_done (by kernel_rfl) ?_ _
      clear hHeld
      by_cases e1 : k = 1
      · subst e1
        cases nb
        · go_wp2_with fail
          go_ret
          exact ⟨ret_bool (by simp [cmB, cmC, HNB.out, HOB.out, *] <;> (intros; omega)), by first | exact KX.out | exact below_dN KX.out _⟩
        · go_wp2_with fail
          go_ret
          exact ⟨ret_bool (by simp [cmB, cmC, HNB.out, HOB.out, *] <;> (intros; omega)), by first | exact KX.out | exact below_dN KX.out _⟩
      by_cases e2 : k = 2
      · subst e2
        cases nb
        · go_wp2_with fail
          go_ret
          exact ⟨ret_bool (by simp [cmB, cmC, HNB.out, HOB.out, *] <;> (intros; omega)), by first | exact KX.out | exact below_dN KX.out _⟩
        · go_wp2_with fail
          go_ret
          exact ⟨ret_bool (by simp [cmB, cmC, HNB.out, HOB.out, *] <;> (intros; omega)), by first | exact KX.out | exact below_dN KX.out _⟩
      by_cases e3 : k = 3
      · subst e3
        cases nb
        · go_wp2_with fail
          go_ret
          exact ⟨ret_bool (by simp [cmB, cmC, HNB.out, HOB.out, *] <;> (intros; omega)), by first | exact KX.out | exact below_dN KX.out _⟩
        · by_cases hn0 : (n : Int) = 0
          · have hnn : n = 0 := by omega
            have hnx : ((n : Int) == 0) = true := by simpa using hn0
            go_wp2_with fail
            refine (impl_isName o _ HO.out).mono ?_
            rintro e u ⟨rfl, hw⟩
            subst u
            rw [HOB.out]
            go_wp2_with fail
            go_ret
            exact ⟨ret_bool (by simp [cmB, cmC, HNB.out, HOB.out, *] <;> (intros; omega)), by first | exact KX.out | exact below_dN KX.out _⟩
          · have hnn : ¬ n = 0 := by omega
            have hnx : ((n : Int) == 0) = false := by simpa using hn0
            go_wp2_with fail
            go_ret
            exact ⟨ret_bool (by simp [cmB, cmC, HNB.out, HOB.out, *] <;> (intros; omega)), by first | exact KX.out | exact below_dN KX.out _⟩
      by_cases e4 : k = 4
      · subst e4
        cases en : s.toList.isEmpty
        · go_wp2_with fail
          go_ret
          exact ⟨ret_bool (by simp [cmB, cmC, HNB.out, HOB.out, *] <;> (intros; omega)), by first | exact KX.out | exact below_dN KX.out _⟩
        · by_cases hn0 : (n : Int) = 0
          · have hnn : n = 0 := by omega
            have hnx : ((n : Int) == 0) = true := by simpa using hn0
            cases eo : o.toList.isEmpty
            · go_wp2_with fail
              go_ret
              exact ⟨ret_bool (by simp [cmB, cmC, HNB.out, HOB.out, *] <;> (intros; omega)), by first | exact KX.out | exact below_dN KX.out _⟩
            · go_wp2_with fail
              go_ret
              exact ⟨ret_bool (by simp [cmB, cmC, HNB.out, HOB.out, *] <;> (intros; omega)), by first | exact KX.out | exact below_dN KX.out _⟩
          · have hnn : ¬ n = 0 := by omega
            have hnx : ((n : Int) == 0) = false := by simpa using hn0
            go_wp2_with fail
            go_ret
            exact ⟨ret_bool (by simp [cmB, cmC, HNB.out, HOB.out, *] <;> (intros; omega)), by first | exact KX.out | exact below_dN KX.out _⟩
      have f1 : (k == 1) = false := by simpa using e1
      have f2 : (k == 2) = false := by simpa using e2
      have f3 : (k == 3) = false := by simpa using e3
      have f4 : (k == 4) = false := by simpa using e4
      go_wp2_with fail
      go_ret
      exact ⟨ret_bool (by simp [cmB, cmC, HNB.out, HOB.out, *] <;> (intros; omega)), by first | exact KX.out | exact below_dN KX.out _⟩
    · have hbq : (b == 0) = false := by simpa using hb0
      go_enter Tryz.func14, Tryz.ntmps14
      go_upto_region 1 with fail
      obtain ⟨X, HX, c_0, c_1, c_2, c_3, c_4, zX, KX⟩ := cm_box w k s o b A n cap
      rw [HX.out]
      clear HX
      refine wp_region_held_drew (S := (fun w' => (∀ bq oq, bq < X.heap.size → w'.cell? ⟨bq, oq, none⟩ = X.cell? ⟨bq, oq, none⟩) ∧ X.heap.size ≤ w'.heap.size ∧ Below X.heap.size X w')) (by kernel_rfl) (sc_of (Nat.le_refl _) (Below.refl _ _).drew) (fun hHeld => ?_)
      refine tkA 0 ?_; try simp only [Act.put, List.getElem_toArray, List.getElem_cons_zero, List.getElem_cons_succ, List.setIfInBounds_toArray, List.set_cons_zero, List.set_cons_succ]
      refine tkA 1 ?_; try simp only [Act.put, List.getElem_toArray, List.getElem_cons_zero, List.getElem_cons_succ, List.setIfInBounds_toArray, List.set_cons_zero, List.set_cons_succ]
      refine tkA 3 ?_; try simp only [Act.put, List.getElem_toArray, List.getElem_cons_zero, List.getElem_cons_succ, List.setIfInBounds_toArray, List.set_cons_zero, List.set_cons_succ]
      refine tkA 4 ?_; try simp only [Act.put, List.getElem_toArray, List.getElem_cons_zero, List.getElem_cons_succ, List.setIfInBounds_toArray, List.set_cons_zero, List.set_cons_succ]
      refine tkA 5 ?_; try simp only [Act.put, List.getElem_toArray, List.getElem_cons_zero, List.getElem_cons_succ, List.setIfInBounds_toArray, List.set_cons_zero, List.set_cons_succ]
      refine rqA 2 (fun Kq hKq => ?_)
      go_simp
      refine (impl_isName s _ HS.out).mono ?_
      rintro e w1 ⟨rfl, hw⟩
      subst w1
      rw [HNB.out]
      refine hKq.out _ _ ?_ (fun hHeld => ?_)
      · exact sc_of (Nat.le_refl _) (by go_grown)
      clear hKq Kq
      try simp only [Act.put, List.getElem_toArray, List.getElem_cons_zero, List.getElem_cons_succ, List.setIfInBounds_toArray, List.set_cons_zero, List.set_cons_succ]
      refine tkA 6 ?_; try simp only [Act.put, List.getElem_toArray, List.getElem_cons_zero, List.getElem_cons_succ, List.setIfInBounds_toArray, List.set_cons_zero, List.set_cons_succ]
      refine tnA 7 ?_; try simp only [Act.put, List.getElem_toArray, List.getElem_cons_zero, List.getElem_cons_succ, List.setIfInBounds_toArray, List.set_cons_zero, List.set_cons_succ]
      refine tnA 8 ?_; try simp only [Act.put, List.getElem_toArray, List.getElem_cons_zero, List.getElem_cons_succ, List.setIfInBounds_toArray, List.set_cons_zero, List.set_cons_succ]
      refine tnA 9 ?_; try simp only [Act.put, List.getElem_toArray, List.getElem_cons_zero, List.getElem_cons_succ, List.setIfInBounds_toArray, List.set_cons_zero, List.set_cons_succ]
      refine tkA 10 ?_; try simp only [Act.put, List.getElem_toArray, List.getElem_cons_zero, List.getElem_cons_succ, List.setIfInBounds_toArray, List.set_cons_zero, List.set_cons_succ]
      refine tkA 11 ?_; try simp only [Act.put, List.getElem_toArray, List.getElem_cons_zero, List.getElem_cons_succ, List.setIfInBounds_toArray, List.set_cons_zero, List.set_cons_succ]
      refine tkA 12 ?_; try simp only [Act.put, List.getElem_toArray, List.getElem_cons_zero, List.getElem_cons_succ, List.setIfInBounds_toArray, List.set_cons_zero, List.set_cons_succ]
      refine wpAnyH_done (by kernel_rfl) ?_ _
      clear hHeld
      by_cases e1 : k = 1
      · subst e1
        cases nb
        · go_wp2_with fail
          go_ret
          exact ⟨ret_bool (by simp [cmB, cmC, HNB.out, HOB.out, *] <;> (intros; omega)), by first | exact KX.out | exact below_dN KX.out _⟩
        · go_wp2_with fail
          go_ret
          exact ⟨ret_bool (by simp [cmB, cmC, HNB.out, HOB.out, *] <;> (intros; omega)), by first | exact KX.out | exact below_dN KX.out _⟩
      by_cases e2 : k = 2
      · subst e2
        cases nb
        · go_wp2_with fail
          go_ret
          exact ⟨ret_bool (by simp [cmB, cmC, HNB.out, HOB.out, *] <;> (intros; omega)), by first | exact KX.out | exact below_dN KX.out _⟩
        · go_wp2_with fail
          go_ret
          exact ⟨ret_bool (by simp [cmB, cmC, HNB.out, HOB.out, *] <;> (intros; omega)), by first | exact KX.out | exact below_dN KX.out _⟩
      by_cases e3 : k = 3
      · subst e3
        cases nb
        · go_wp2_with fail
          go_ret
          exact ⟨ret_bool (by simp [cmB, cmC, HNB.out, HOB.out, *] <;> (intros; omega)), by first | exact KX.out | exact below_dN KX.out _⟩
        · go_wp2_with fail
          go_ret
          exact ⟨ret_bool (by simp [cmB, cmC, HNB.out, HOB.out, *] <;> (intros; omega)), by first | exact KX.out | exact below_dN KX.out _⟩
      by_cases e4 : k = 4
      · subst e4
        cases en : s.toList.isEmpty
        · go_wp2_with fail
          go_ret
          exact ⟨ret_bool (by simp [cmB, cmC, HNB.out, HOB.out, *] <;> (intros; omega)), by first | exact KX.out | exact below_dN KX.out _⟩
        · go_wp2_with fail
          go_ret
          exact ⟨ret_bool (by simp [cmB, cmC, HNB.out, HOB.out, *] <;> (intros; omega)), by first | exact KX.out | exact below_dN KX.out _⟩
      have f1 : (k == 1) = false := by simpa using e1
      have f2 : (k == 2) = false := by simpa using e2
      have f3 : (k == 3) = false := by simpa using e3
      have f4 : (k == 4) = false := by simpa using e4
      go_wp2_with fail
      go_ret
      exact ⟨ret_bool (by simp [cmB, cmC, HNB.out, HOB.out, *] <;> (intros; omega)), by first | exact KX.out | exact below_dN KX.out _⟩
theorem spec_l1InC (n lo hi : Int) (w : World) : Calls Tryz.prog 20 #[.int .i64 n, .int .i64 lo, .int .i64 hi] w fun e w' => e = .returned (.bool (decide (lo ≤ n) && decide (n ≤ hi))) ∧ w' = w := by
  by_cases h1 : lo ≤ n
  · by_cases h2 : n ≤ hi
    · go_enter Tryz.func20, Tryz.ntmps20
      go_wp2_with fail
      go_ret
      exact ⟨ret_bool (by simp [h1, h2]), rfl⟩
    · go_enter Tryz.func20, Tryz.ntmps20
      go_wp2_with fail
      go_ret
      exact ⟨ret_bool (by simp; omega), rfl⟩
  · go_enter Tryz.func20, Tryz.ntmps20
    go_wp2_with fail
    go_ret
    exact ⟨ret_bool (by simp; omega), rfl⟩
set_option maxRecDepth 100000 in
set_option maxHeartbeats 8000000 in
theorem spec_cmRight (k : Int) (s o : ByteArray) (b : Int) (A : Option Addr) (n cap : Nat) (mb : Bool) (w : World) (hs : s.size ≤ maxLen) (ho : o.size ≤ maxLen)
    (HM : ∀ W, Below w.heap.size w W → Calls Tryz.prog 21 #[.slice A n cap] W fun e w' => e = .returned (.bool mb) ∧ Below W.heap.size W w') :
    Calls Tryz.prog 10 #[.agg #[.int .i64 k, .string s, .string o, .int .i64 b, .slice A n cap]] w fun e w' => e = .returned (.bool (cmB k s o b mb n)) ∧ Below w.heap.size w w' := by
  have HMM : Hid (∀ W, Below w.heap.size w W → Calls Tryz.prog 21 #[.slice A n cap] W fun e w' => e = .returned (.bool mb) ∧ Below W.heap.size W w') := HM
  have HS : Hid (s.size ≤ maxLen) := hs
  have HO : Hid (o.size ≤ maxLen) := ho
  obtain ⟨nb, HNB⟩ : ∃ b, Hid (nmB s = b) := ⟨_, rfl⟩
  obtain ⟨ob, HOB⟩ : ∃ b, Hid (nmB o = b) := ⟨_, rfl⟩
  clear HM hs ho
  by_cases hb1 : 1 ≤ b
  · by_cases hb2 : b ≤ 1000000000
    · have hb0 : ¬ b = 0 := by omega
      have hbq : (b == 0) = false := by simpa using hb0
      go_enter Tryz.func10, Tryz.ntmps10
      go_upto_region 1 with fail
      obtain ⟨X, HX, c_0, c_1, c_2, c_3, c_4, zX, KX⟩ := cm_box w k s o b A n cap
      rw [HX.out]
      clear HX
      by_cases e1 : k = 1
      · subst e1
        go_wp2_with fail
        refine (spec_l10Name s _ HS.out).mono ?_
        rintro e u ⟨rfl, hw⟩
        subst u
        rw [HNB.out]
        cases nb
        · go_wp2_with fail
          go_ret
          exact ⟨ret_bool (by simp [cmB, cmC, HNB.out, HOB.out, *] <;> (intros; omega)), by first | exact KX.out | exact below_dN KX.out _⟩
        · cases eo : o.toList.isEmpty
          · go_wp2_with fail
            go_ret
            exact ⟨ret_bool (by simp [cmB, cmC, HNB.out, HOB.out, *] <;> (intros; omega)), by first | exact KX.out | exact below_dN KX.out _⟩
          · go_wp2_with fail
            refine (spec_l1InC b 1 1000000000 _).mono ?_
            rintro e u ⟨rfl, hw⟩
            subst u
            go_wp2_with fail
            refine (HMM.out _ (by first | exact KX.out | exact below_dN KX.out _)).mono ?_
            rintro e u ⟨rfl, hb⟩
            replace c_2 : u.cell? ⟨w.heap.size, 2, none⟩ = some (.string o) := cy hb c_2
            have KU : Hid (Below w.heap.size w u) := bchain (by first | exact KX.out | exact below_dN KX.out _) hb
            have zU : w.heap.size < u.heap.size := Nat.lt_of_lt_of_le zX hb.size
            clear hb c_0 c_1 c_3 c_4
            cases mb
            · go_wp2_with fail
              go_ret
              exact ⟨ret_bool (by simp [cmB, cmC, HNB.out, HOB.out, *] <;> (intros; omega)), by first | exact KU.out | exact below_dN KU.out _⟩
            · go_wp2_with fail
              go_ret
              exact ⟨ret_bool (by simp [cmB, cmC, HNB.out, HOB.out, *] <;> (intros; omega)), by first | exact KU.out | exact below_dN KU.out _⟩
      by_cases e2 : k = 2
      · subst e2
        go_wp2_with fail
        refine (spec_l10Name s _ HS.out).mono ?_
        rintro e u ⟨rfl, hw⟩
        subst u
        rw [HNB.out]
        cases nb
        · go_wp2_with fail
          go_ret
          exact ⟨ret_bool (by simp [cmB, cmC, HNB.out, HOB.out, *] <;> (intros; omega)), by first | exact KX.out | exact below_dN KX.out _⟩
        · cases eo : o.toList.isEmpty
          · go_wp2_with fail
            go_ret
            exact ⟨ret_bool (by simp [cmB, cmC, HNB.out, HOB.out, *] <;> (intros; omega)), by first | exact KX.out | exact below_dN KX.out _⟩
          · go_wp2_with fail
            refine (spec_l1InC b 1 1000000000 _).mono ?_
            rintro e u ⟨rfl, hw⟩
            subst u
            by_cases hn0 : (n : Int) = 0
            · have hnn : n = 0 := by omega
              have hnx : ((n : Int) == 0) = true := by simpa using hn0
              go_wp2_with fail
              go_ret
              exact ⟨ret_bool (by simp [cmB, cmC, HNB.out, HOB.out, *] <;> (intros; omega)), by first | exact KX.out | exact below_dN KX.out _⟩
            · have hnn : ¬ n = 0 := by omega
              have hnx : ((n : Int) == 0) = false := by simpa using hn0
              go_wp2_with fail
              go_ret
              exact ⟨ret_bool (by simp [cmB, cmC, HNB.out, HOB.out, *] <;> (intros; omega)), by first | exact KX.out | exact below_dN KX.out _⟩
      by_cases e3 : k = 3
      · subst e3
        go_wp2_with fail
        refine (spec_l10Name s _ HS.out).mono ?_
        rintro e u ⟨rfl, hw⟩
        subst u
        rw [HNB.out]
        cases nb
        · go_wp2_with fail
          go_ret
          exact ⟨ret_bool (by simp [cmB, cmC, HNB.out, HOB.out, *] <;> (intros; omega)), by first | exact KX.out | exact below_dN KX.out _⟩
        · go_wp2_with fail
          refine (spec_l10Name o _ HO.out).mono ?_
          rintro e u ⟨rfl, hw⟩
          subst u
          rw [HOB.out]
          cases ob
          · go_wp2_with fail
            go_ret
            exact ⟨ret_bool (by simp [cmB, cmC, HNB.out, HOB.out, *] <;> (intros; omega)), by first | exact KX.out | exact below_dN KX.out _⟩
          · go_wp2_with fail
            go_ret
            exact ⟨ret_bool (by simp [cmB, cmC, HNB.out, HOB.out, *] <;> (intros; omega)), by first | exact KX.out | exact below_dN KX.out _⟩
      by_cases e4 : k = 4
      · subst e4
        cases en : s.toList.isEmpty
        · go_wp2_with fail
          go_ret
          exact ⟨ret_bool (by simp [cmB, cmC, HNB.out, HOB.out, *] <;> (intros; omega)), by first | exact KX.out | exact below_dN KX.out _⟩
        · cases eo : o.toList.isEmpty
          · go_wp2_with fail
            go_ret
            exact ⟨ret_bool (by simp [cmB, cmC, HNB.out, HOB.out, *] <;> (intros; omega)), by first | exact KX.out | exact below_dN KX.out _⟩
          · go_wp2_with fail
            go_ret
            exact ⟨ret_bool (by simp [cmB, cmC, HNB.out, HOB.out, *] <;> (intros; omega)), by first | exact KX.out | exact below_dN KX.out _⟩
      have f1 : (k == 1) = false := by simpa using e1
      have f2 : (k == 2) = false := by simpa using e2
      have f3 : (k == 3) = false := by simpa using e3
      have f4 : (k == 4) = false := by simpa using e4
      go_wp2_with fail
      go_ret
      exact ⟨ret_bool (by simp [cmB, cmC, HNB.out, HOB.out, *] <;> (intros; omega)), by first | exact KX.out | exact below_dN KX.out _⟩
    · have hb0 : ¬ b = 0 := by omega
      have hbq : (b == 0) = false := by simpa using hb0
      go_enter Tryz.func10, Tryz.ntmps10
      go_upto_region 1 with fail
      obtain ⟨X, HX, c_0, c_1, c_2, c_3, c_4, zX, KX⟩ := cm_box w k s o b A n cap
      rw [HX.out]
      clear HX
      by_cases e1 : k = 1
      · subst e1
        go_wp2_with fail
        refine (spec_l10Name s _ HS.out).mono ?_
        rintro e u ⟨rfl, hw⟩
        subst u
        rw [HNB.out]
        cases nb
        · go_wp2_with fail
          go_ret
          exact ⟨ret_bool (by simp [cmB, cmC, HNB.out, HOB.out, *] <;> (intros; omega)), by first | exact KX.out | exact below_dN KX.out _⟩
        · cases eo : o.toList.isEmpty
          · go_wp2_with fail
            go_ret
            exact ⟨ret_bool (by simp [cmB, cmC, HNB.out, HOB.out, *] <;> (intros; omega)), by first | exact KX.out | exact below_dN KX.out _⟩
          · go_wp2_with fail
            refine (spec_l1InC b 1 1000000000 _).mono ?_
            rintro e u ⟨rfl, hw⟩
            subst u
            go_wp2_with fail
            go_ret
            exact ⟨ret_bool (by simp [cmB, cmC, HNB.out, HOB.out, *] <;> (intros; omega)), by first | exact KX.out | exact below_dN KX.out _⟩
      by_cases e2 : k = 2
      · subst e2
        go_wp2_with fail
        refine (spec_l10Name s _ HS.out).mono ?_
        rintro e u ⟨rfl, hw⟩
        subst u
        rw [HNB.out]
        cases nb
        · go_wp2_with fail
          go_ret
          exact ⟨ret_bool (by simp [cmB, cmC, HNB.out, HOB.out, *] <;> (intros; omega)), by first | exact KX.out | exact below_dN KX.out _⟩
        · cases eo : o.toList.isEmpty
          · go_wp2_with fail
            go_ret
            exact ⟨ret_bool (by simp [cmB, cmC, HNB.out, HOB.out, *] <;> (intros; omega)), by first | exact KX.out | exact below_dN KX.out _⟩
          · go_wp2_with fail
            refine (spec_l1InC b 1 1000000000 _).mono ?_
            rintro e u ⟨rfl, hw⟩
            subst u
            go_wp2_with fail
            go_ret
            exact ⟨ret_bool (by simp [cmB, cmC, HNB.out, HOB.out, *] <;> (intros; omega)), by first | exact KX.out | exact below_dN KX.out _⟩
      by_cases e3 : k = 3
      · subst e3
        go_wp2_with fail
        refine (spec_l10Name s _ HS.out).mono ?_
        rintro e u ⟨rfl, hw⟩
        subst u
        rw [HNB.out]
        cases nb
        · go_wp2_with fail
          go_ret
          exact ⟨ret_bool (by simp [cmB, cmC, HNB.out, HOB.out, *] <;> (intros; omega)), by first | exact KX.out | exact below_dN KX.out _⟩
        · go_wp2_with fail
          refine (spec_l10Name o _ HO.out).mono ?_
          rintro e u ⟨rfl, hw⟩
          subst u
          rw [HOB.out]
          cases ob
          · go_wp2_with fail
            go_ret
            exact ⟨ret_bool (by simp [cmB, cmC, HNB.out, HOB.out, *] <;> (intros; omega)), by first | exact KX.out | exact below_dN KX.out _⟩
          · go_wp2_with fail
            go_ret
            exact ⟨ret_bool (by simp [cmB, cmC, HNB.out, HOB.out, *] <;> (intros; omega)), by first | exact KX.out | exact below_dN KX.out _⟩
      by_cases e4 : k = 4
      · subst e4
        cases en : s.toList.isEmpty
        · go_wp2_with fail
          go_ret
          exact ⟨ret_bool (by simp [cmB, cmC, HNB.out, HOB.out, *] <;> (intros; omega)), by first | exact KX.out | exact below_dN KX.out _⟩
        · cases eo : o.toList.isEmpty
          · go_wp2_with fail
            go_ret
            exact ⟨ret_bool (by simp [cmB, cmC, HNB.out, HOB.out, *] <;> (intros; omega)), by first | exact KX.out | exact below_dN KX.out _⟩
          · go_wp2_with fail
            go_ret
            exact ⟨ret_bool (by simp [cmB, cmC, HNB.out, HOB.out, *] <;> (intros; omega)), by first | exact KX.out | exact below_dN KX.out _⟩
      have f1 : (k == 1) = false := by simpa using e1
      have f2 : (k == 2) = false := by simpa using e2
      have f3 : (k == 3) = false := by simpa using e3
      have f4 : (k == 4) = false := by simpa using e4
      go_wp2_with fail
      go_ret
      exact ⟨ret_bool (by simp [cmB, cmC, HNB.out, HOB.out, *] <;> (intros; omega)), by first | exact KX.out | exact below_dN KX.out _⟩
  · by_cases hb0 : b = 0
    · subst hb0
      go_enter Tryz.func10, Tryz.ntmps10
      go_upto_region 1 with fail
      obtain ⟨X, HX, c_0, c_1, c_2, c_3, c_4, zX, KX⟩ := cm_box w k s o 0 A n cap
      rw [HX.out]
      clear HX
      by_cases e1 : k = 1
      · subst e1
        go_wp2_with fail
        refine (spec_l10Name s _ HS.out).mono ?_
        rintro e u ⟨rfl, hw⟩
        subst u
        rw [HNB.out]
        cases nb
        · go_wp2_with fail
          go_ret
          exact ⟨ret_bool (by simp [cmB, cmC, HNB.out, HOB.out, *] <;> (intros; omega)), by first | exact KX.out | exact below_dN KX.out _⟩
        · cases eo : o.toList.isEmpty
          · go_wp2_with fail
            go_ret
            exact ⟨ret_bool (by simp [cmB, cmC, HNB.out, HOB.out, *] <;> (intros; omega)), by first | exact KX.out | exact below_dN KX.out _⟩
          · go_wp2_with fail
            refine (spec_l1InC 0 1 1000000000 _).mono ?_
            rintro e u ⟨rfl, hw⟩
            subst u
            go_wp2_with fail
            go_ret
            exact ⟨ret_bool (by simp [cmB, cmC, HNB.out, HOB.out, *] <;> (intros; omega)), by first | exact KX.out | exact below_dN KX.out _⟩
      by_cases e2 : k = 2
      · subst e2
        go_wp2_with fail
        refine (spec_l10Name s _ HS.out).mono ?_
        rintro e u ⟨rfl, hw⟩
        subst u
        rw [HNB.out]
        cases nb
        · go_wp2_with fail
          go_ret
          exact ⟨ret_bool (by simp [cmB, cmC, HNB.out, HOB.out, *] <;> (intros; omega)), by first | exact KX.out | exact below_dN KX.out _⟩
        · cases eo : o.toList.isEmpty
          · go_wp2_with fail
            go_ret
            exact ⟨ret_bool (by simp [cmB, cmC, HNB.out, HOB.out, *] <;> (intros; omega)), by first | exact KX.out | exact below_dN KX.out _⟩
          · go_wp2_with fail
            refine (spec_l1InC 0 1 1000000000 _).mono ?_
            rintro e u ⟨rfl, hw⟩
            subst u
            go_wp2_with fail
            go_ret
            exact ⟨ret_bool (by simp [cmB, cmC, HNB.out, HOB.out, *] <;> (intros; omega)), by first | exact KX.out | exact below_dN KX.out _⟩
      by_cases e3 : k = 3
      · subst e3
        go_wp2_with fail
        refine (spec_l10Name s _ HS.out).mono ?_
        rintro e u ⟨rfl, hw⟩
        subst u
        rw [HNB.out]
        cases nb
        · go_wp2_with fail
          go_ret
          exact ⟨ret_bool (by simp [cmB, cmC, HNB.out, HOB.out, *] <;> (intros; omega)), by first | exact KX.out | exact below_dN KX.out _⟩
        · go_wp2_with fail
          refine (spec_l10Name o _ HO.out).mono ?_
          rintro e u ⟨rfl, hw⟩
          subst u
          rw [HOB.out]
          cases ob
          · go_wp2_with fail
            go_ret
            exact ⟨ret_bool (by simp [cmB, cmC, HNB.out, HOB.out, *] <;> (intros; omega)), by first | exact KX.out | exact below_dN KX.out _⟩
          · by_cases hn0 : (n : Int) = 0
            · have hnn : n = 0 := by omega
              have hnx : ((n : Int) == 0) = true := by simpa using hn0
              go_wp2_with fail
              go_ret
              exact ⟨ret_bool (by simp [cmB, cmC, HNB.out, HOB.out, *] <;> (intros; omega)), by first | exact KX.out | exact below_dN KX.out _⟩
            · have hnn : ¬ n = 0 := by omega
              have hnx : ((n : Int) == 0) = false := by simpa using hn0
              go_wp2_with fail
              go_ret
              exact ⟨ret_bool (by simp [cmB, cmC, HNB.out, HOB.out, *] <;> (intros; omega)), by first | exact KX.out | exact below_dN KX.out _⟩
      by_cases e4 : k = 4
      · subst e4
        cases en : s.toList.isEmpty
        · go_wp2_with fail
          go_ret
          exact ⟨ret_bool (by simp [cmB, cmC, HNB.out, HOB.out, *] <;> (intros; omega)), by first | exact KX.out | exact below_dN KX.out _⟩
        · cases eo : o.toList.isEmpty
          · go_wp2_with fail
            go_ret
            exact ⟨ret_bool (by simp [cmB, cmC, HNB.out, HOB.out, *] <;> (intros; omega)), by first | exact KX.out | exact below_dN KX.out _⟩
          · by_cases hn0 : (n : Int) = 0
            · have hnn : n = 0 := by omega
              have hnx : ((n : Int) == 0) = true := by simpa using hn0
              go_wp2_with fail
              go_ret
              exact ⟨ret_bool (by simp [cmB, cmC, HNB.out, HOB.out, *] <;> (intros; omega)), by first | exact KX.out | exact below_dN KX.out _⟩
            · have hnn : ¬ n = 0 := by omega
              have hnx : ((n : Int) == 0) = false := by simpa using hn0
              go_wp2_with fail
              go_ret
              exact ⟨ret_bool (by simp [cmB, cmC, HNB.out, HOB.out, *] <;> (intros; omega)), by first | exact KX.out | exact below_dN KX.out _⟩
      have f1 : (k == 1) = false := by simpa using e1
      have f2 : (k == 2) = false := by simpa using e2
      have f3 : (k == 3) = false := by simpa using e3
      have f4 : (k == 4) = false := by simpa using e4
      go_wp2_with fail
      go_ret
      exact ⟨ret_bool (by simp [cmB, cmC, HNB.out, HOB.out, *] <;> (intros; omega)), by first | exact KX.out | exact below_dN KX.out _⟩
    · have hbq : (b == 0) = false := by simpa using hb0
      go_enter Tryz.func10, Tryz.ntmps10
      go_upto_region 1 with fail
      obtain ⟨X, HX, c_0, c_1, c_2, c_3, c_4, zX, KX⟩ := cm_box w k s o b A n cap
      rw [HX.out]
      clear HX
      by_cases e1 : k = 1
      · subst e1
        go_wp2_with fail
        refine (spec_l10Name s _ HS.out).mono ?_
        rintro e u ⟨rfl, hw⟩
        subst u
        rw [HNB.out]
        cases nb
        · go_wp2_with fail
          go_ret
          exact ⟨ret_bool (by simp [cmB, cmC, HNB.out, HOB.out, *] <;> (intros; omega)), by first | exact KX.out | exact below_dN KX.out _⟩
        · cases eo : o.toList.isEmpty
          · go_wp2_with fail
            go_ret
            exact ⟨ret_bool (by simp [cmB, cmC, HNB.out, HOB.out, *] <;> (intros; omega)), by first | exact KX.out | exact below_dN KX.out _⟩
          · go_wp2_with fail
            refine (spec_l1InC b 1 1000000000 _).mono ?_
            rintro e u ⟨rfl, hw⟩
            subst u
            go_wp2_with fail
            go_ret
            exact ⟨ret_bool (by simp [cmB, cmC, HNB.out, HOB.out, *] <;> (intros; omega)), by first | exact KX.out | exact below_dN KX.out _⟩
      by_cases e2 : k = 2
      · subst e2
        go_wp2_with fail
        refine (spec_l10Name s _ HS.out).mono ?_
        rintro e u ⟨rfl, hw⟩
        subst u
        rw [HNB.out]
        cases nb
        · go_wp2_with fail
          go_ret
          exact ⟨ret_bool (by simp [cmB, cmC, HNB.out, HOB.out, *] <;> (intros; omega)), by first | exact KX.out | exact below_dN KX.out _⟩
        · cases eo : o.toList.isEmpty
          · go_wp2_with fail
            go_ret
            exact ⟨ret_bool (by simp [cmB, cmC, HNB.out, HOB.out, *] <;> (intros; omega)), by first | exact KX.out | exact below_dN KX.out _⟩
          · go_wp2_with fail
            refine (spec_l1InC b 1 1000000000 _).mono ?_
            rintro e u ⟨rfl, hw⟩
            subst u
            go_wp2_with fail
            go_ret
            exact ⟨ret_bool (by simp [cmB, cmC, HNB.out, HOB.out, *] <;> (intros; omega)), by first | exact KX.out | exact below_dN KX.out _⟩
      by_cases e3 : k = 3
      · subst e3
        go_wp2_with fail
        refine (spec_l10Name s _ HS.out).mono ?_
        rintro e u ⟨rfl, hw⟩
        subst u
        rw [HNB.out]
        cases nb
        · go_wp2_with fail
          go_ret
          exact ⟨ret_bool (by simp [cmB, cmC, HNB.out, HOB.out, *] <;> (intros; omega)), by first | exact KX.out | exact below_dN KX.out _⟩
        · go_wp2_with fail
          refine (spec_l10Name o _ HO.out).mono ?_
          rintro e u ⟨rfl, hw⟩
          subst u
          rw [HOB.out]
          cases ob
          · go_wp2_with fail
            go_ret
            exact ⟨ret_bool (by simp [cmB, cmC, HNB.out, HOB.out, *] <;> (intros; omega)), by first | exact KX.out | exact below_dN KX.out _⟩
          · go_wp2_with fail
            go_ret
            exact ⟨ret_bool (by simp [cmB, cmC, HNB.out, HOB.out, *] <;> (intros; omega)), by first | exact KX.out | exact below_dN KX.out _⟩
      by_cases e4 : k = 4
      · subst e4
        cases en : s.toList.isEmpty
        · go_wp2_with fail
          go_ret
          exact ⟨ret_bool (by simp [cmB, cmC, HNB.out, HOB.out, *] <;> (intros; omega)), by first | exact KX.out | exact below_dN KX.out _⟩
        · cases eo : o.toList.isEmpty
          · go_wp2_with fail
            go_ret
            exact ⟨ret_bool (by simp [cmB, cmC, HNB.out, HOB.out, *] <;> (intros; omega)), by first | exact KX.out | exact below_dN KX.out _⟩
          · go_wp2_with fail
            go_ret
            exact ⟨ret_bool (by simp [cmB, cmC, HNB.out, HOB.out, *] <;> (intros; omega)), by first | exact KX.out | exact below_dN KX.out _⟩
      have f1 : (k == 1) = false := by simpa using e1
      have f2 : (k == 2) = false := by simpa using e2
      have f3 : (k == 3) = false := by simpa using e3
      have f4 : (k == 4) = false := by simpa using e4
      go_wp2_with fail
      go_ret
      exact ⟨ret_bool (by simp [cmB, cmC, HNB.out, HOB.out, *] <;> (intros; omega)), by first | exact KX.out | exact below_dN KX.out _⟩
end Go.Proofs.YtelehnemlejcoaaGreatDoor
namespace Go.Proofs.YtelehnemlejcoaaGreatDoor
open Go.RowKit
def cmX (k : Int) (s o D M : ByteArray) : ByteArray := if k = 1 then (⟨#[114, 117, 110, 32]⟩ : ByteArray) ++ s ++ ⟨#[32]⟩ ++ D ++ ⟨#[10]⟩ ++ M else if k = 2 then (⟨#[98, 114, 97, 110, 99, 104, 32]⟩ : ByteArray) ++ s ++ ⟨#[32]⟩ ++ D ++ ⟨#[10]⟩ else if k = 3 then (⟨#[109, 101, 114, 103, 101, 32]⟩ : ByteArray) ++ s ++ ⟨#[32]⟩ ++ o ++ ⟨#[10]⟩ else ⟨#[115, 119, 101, 101, 112, 10]⟩
def cmT (k : Int) (s o : ByteArray) (b : Int) (mb : Bool) (n : Nat) (D M : ByteArray) : ByteArray := if cmB k s o b mb n = true then cmX k s o D M else ⟨#[]⟩
theorem cmT_no {k : Int} {s o : ByteArray} {b : Int} {mb : Bool} {n : Nat} {D M : ByteArray} (h : cmB k s o b mb n = false) : cmT k s o b mb n D M = ⟨#[]⟩ := by rw [cmT, if_neg (by rw [h]; simp)]
theorem cmT_yes {k : Int} {s o : ByteArray} {b : Int} {mb : Bool} {n : Nat} {D M : ByteArray} (h : cmB k s o b mb n = true) : cmT k s o b mb n D M = cmX k s o D M := by rw [cmT, if_pos h]
theorem cm_kind {k : Int} {s o : ByteArray} {b : Int} {mb : Bool} {n : Nat} (h : cmB k s o b mb n = true) : (k = 1 ∧ nmB s = true ∧ 1 ≤ b ∧ b ≤ 1000000000 ∧ mb = true) ∨ (k = 2 ∧ nmB s = true ∧ 1 ≤ b ∧ b ≤ 1000000000) ∨ (k = 3 ∧ nmB s = true ∧ nmB o = true) ∨ k = 4 := by
  unfold cmB cmC at h
  by_cases e1 : k = 1
  · rw [if_pos e1] at h; simp only [Bool.and_eq_true, decide_eq_true_eq] at h; exact Or.inl ⟨e1, h.1, h.2.1, h.2.2.1, h.2.2.2.1⟩
  rw [if_neg e1] at h
  by_cases e2 : k = 2
  · rw [if_pos e2] at h; simp only [Bool.and_eq_true, decide_eq_true_eq] at h; exact Or.inr (Or.inl ⟨e2, h.1, h.2.1, h.2.2.1⟩)
  rw [if_neg e2] at h
  by_cases e3 : k = 3
  · rw [if_pos e3] at h; simp only [Bool.and_eq_true, decide_eq_true_eq] at h; exact Or.inr (Or.inr (Or.inl ⟨e3, h.1, h.2.2.2⟩))
  rw [if_neg e3] at h
  by_cases e4 : k = 4
  · exact Or.inr (Or.inr (Or.inr e4))
  rw [if_neg e4] at h; cases h
theorem str_ret {a b : ByteArray} (h : a = b) : Ending.returned (.string a) = .returned (.string b) := by rw [h]
set_option maxRecDepth 100000 in
set_option maxHeartbeats 8000000 in
theorem impl_CmdText (k : Int) (s o : ByteArray) (b : Int) (A : Option Addr) (n cap : Nat) (mb : Bool) (D M : ByteArray) (w : World) (hs : s.size ≤ maxLen) (ho : o.size ≤ maxLen) (hD : D.size ≤ 30) (hM : M.size ≤ 100000000)
    (HM : ∀ W, Below w.heap.size w W → Calls Tryz.prog 25 #[.slice A n cap] W fun e w' => e = .returned (.bool mb) ∧ Below W.heap.size W w')
    (HD : 1 ≤ b → b ≤ 1000000000 → ∀ W, Below w.heap.size w W → Calls Tryz.prog 15 #[.int .i64 b] W fun e w' => e = .returned (.string D) ∧ Below W.heap.size W w')
    (HT : mb = true → ∀ W, Below w.heap.size w W → Calls Tryz.prog 16 #[.slice A n cap] W fun e w' => e = .returned (.string M) ∧ Below W.heap.size W w') :
    Calls Tryz.prog 7 #[.agg #[.int .i64 k, .string s, .string o, .int .i64 b, .slice A n cap]] w fun e w' => e = .returned (.string (cmT k s o b mb n D M)) ∧ Below w.heap.size w w' := by
  have HCR : Hid (∀ W, Below w.heap.size w W → Calls Tryz.prog 14 #[.agg #[.int .i64 k, .string s, .string o, .int .i64 b, .slice A n cap]] W fun e w' => e = .returned (.bool (cmB k s o b mb n)) ∧ Below W.heap.size W w') := fun W hW => impl_cmRight k s o b A n cap mb W hs ho (fun W' hW' => HM W' (bchain hW hW'))
  have HDD : Hid (1 ≤ b → b ≤ 1000000000 → ∀ W, Below w.heap.size w W → Calls Tryz.prog 15 #[.int .i64 b] W fun e w' => e = .returned (.string D) ∧ Below W.heap.size W w') := HD
  have HTT : Hid (mb = true → ∀ W, Below w.heap.size w W → Calls Tryz.prog 16 #[.slice A n cap] W fun e w' => e = .returned (.string M) ∧ Below W.heap.size W w') := HT
  have HDS : Hid (D.size ≤ 30) := hD
  have HMS : Hid (M.size ≤ 100000000) := hM
  clear HM HD HT hs ho hD hM
  obtain ⟨cb, HCB⟩ : ∃ c, Hid (cmB k s o b mb n = c) := ⟨_, rfl⟩
  go_enter Tryz.func7, Tryz.ntmps7
  go_wp2_with fail
  obtain ⟨X, HX, c_0, c_1, c_2, c_3, c_4, zX, KX⟩ := cm_box w k s o b A n cap
  rw [HX.out]
  clear HX
  refine (HCR.out _ KX.out).mono ?_
  rintro e u ⟨rfl, hb⟩
  rw [HCB.out]
  replace c_0 := cy hb c_0
  replace c_1 := cy hb c_1
  replace c_2 := cy hb c_2
  replace c_3 := cy hb c_3
  replace c_4 := cy hb c_4
  replace zX : w.heap.size < u.heap.size := Nat.lt_of_lt_of_le zX hb.size
  have KU : Hid (Below w.heap.size w u) := bchain KX.out hb
  clear hb HCR KX
  cases cb
  · go_wp2_with fail
    go_ret
    exact ⟨str_ret (cmT_no HCB.out).symm, KU.out⟩
  have HE : Hid (cmT k s o b mb n D M = cmX k s o D M) := cmT_yes HCB.out
  rcases cm_kind HCB.out with ⟨rfl, hn, hb1, hb2, hmb⟩ | ⟨rfl, hn, hb1, hb2⟩ | ⟨rfl, hn, hno⟩ | rfl
  · have hsz := (nmB_size hn).2
    have hD := HDS.out
    have hM := HMS.out
    have q1 : (⟨#[114, 117, 110, 32]⟩ : ByteArray).size = 4 := rfl
    have q2 : (⟨#[32]⟩ : ByteArray).size = 1 := rfl
    have q3 : (⟨#[10]⟩ : ByteArray).size = 1 := rfl
    have r1 : ∀ W, (Op.stringOp .add (⟨#[114, 117, 110, 32]⟩ : ByteArray) s).run Tryz.prog W = .ok (.string ((⟨#[114, 117, 110, 32]⟩ : ByteArray) ++ s)) W := fun W => run_string_add_sum W _ _ (by rw [q1]; omega)
    have r2 : ∀ W, (Op.stringOp .add ((⟨#[114, 117, 110, 32]⟩ : ByteArray) ++ s) (⟨#[32]⟩ : ByteArray)).run Tryz.prog W = .ok (.string ((⟨#[114, 117, 110, 32]⟩ : ByteArray) ++ s ++ (⟨#[32]⟩ : ByteArray))) W := fun W => run_string_add_sum W _ _ (by simp only [ByteArray.size_append, q1, q2]; omega)
    have r3 : ∀ W, (Op.stringOp .add ((⟨#[114, 117, 110, 32]⟩ : ByteArray) ++ s ++ (⟨#[32]⟩ : ByteArray)) D).run Tryz.prog W = .ok (.string ((⟨#[114, 117, 110, 32]⟩ : ByteArray) ++ s ++ (⟨#[32]⟩ : ByteArray) ++ D)) W := fun W => run_string_add_sum W _ _ (by simp only [ByteArray.size_append, q1, q2]; omega)
    have r4 : ∀ W, (Op.stringOp .add ((⟨#[114, 117, 110, 32]⟩ : ByteArray) ++ s ++ (⟨#[32]⟩ : ByteArray) ++ D) (⟨#[10]⟩ : ByteArray)).run Tryz.prog W = .ok (.string ((⟨#[114, 117, 110, 32]⟩ : ByteArray) ++ s ++ (⟨#[32]⟩ : ByteArray) ++ D ++ (⟨#[10]⟩ : ByteArray))) W := fun W => run_string_add_sum W _ _ (by simp only [ByteArray.size_append, q1, q2, q3]; omega)
    have r5 : ∀ W, (Op.stringOp .add ((⟨#[114, 117, 110, 32]⟩ : ByteArray) ++ s ++ (⟨#[32]⟩ : ByteArray) ++ D ++ (⟨#[10]⟩ : ByteArray)) M).run Tryz.prog W = .ok (.string ((⟨#[114, 117, 110, 32]⟩ : ByteArray) ++ s ++ (⟨#[32]⟩ : ByteArray) ++ D ++ (⟨#[10]⟩ : ByteArray) ++ M)) W := fun W => run_string_add_sum W _ _ (by simp only [ByteArray.size_append, q1, q2, q3]; omega)
    have HE1 : Hid (cmX 1 s o D M = (⟨#[114, 117, 110, 32]⟩ : ByteArray) ++ s ++ (⟨#[32]⟩ : ByteArray) ++ D ++ (⟨#[10]⟩ : ByteArray) ++ M) := rfl
    have HB1 : Hid (1 ≤ b) := hb1
    have HB2 : Hid (b ≤ 1000000000) := hb2
    have HMB : Hid (mb = true) := hmb
    clear hsz hD hM q1 q2 q3 hb1 hb2 hmb hn
    go_wp2_with fail
    go_region_held3 (fun w' => (∀ bq oq, bq < u.heap.size → w'.cell? ⟨bq, oq, none⟩ = u.cell? ⟨bq, oq, none⟩) ∧ u.heap.size ≤ w'.heap.size ∧ Below u.heap.size u w')
      (exact sc_of (Nat.le_refl _) (by go_grown))
      (first
      | (go_at_call 15; refine (HDD.out HB1.out HB2.out _ (bchain KU.out (by go_grown))).mono ?_; rintro e y1 ⟨rfl, hb⟩; obtain ⟨hk1, hz1⟩ := bframe (B := u.heap.size) (X := u) (by go_grown) (by go_size) hb; clear hb)
      | (go_at_call 16; refine (HTT.out HMB.out _ (bchain KU.out (by go_grown))).mono ?_; rintro e y2 ⟨rfl, hb⟩; obtain ⟨hk2, hz2⟩ := bframe (B := u.heap.size) (X := u) (by go_grown) (by go_size) hb; clear hb))
    all_goals
      go_wp2_with fail
      go_ret
      exact ⟨str_ret (HE.out.trans HE1.out).symm, bchain KU.out (by go_grown)⟩
  · have hsz := (nmB_size hn).2
    have hD := HDS.out
    have q1 : (⟨#[98, 114, 97, 110, 99, 104, 32]⟩ : ByteArray).size = 7 := rfl
    have q2 : (⟨#[32]⟩ : ByteArray).size = 1 := rfl
    have q3 : (⟨#[10]⟩ : ByteArray).size = 1 := rfl
    have r1 : ∀ W, (Op.stringOp .add (⟨#[98, 114, 97, 110, 99, 104, 32]⟩ : ByteArray) s).run Tryz.prog W = .ok (.string ((⟨#[98, 114, 97, 110, 99, 104, 32]⟩ : ByteArray) ++ s)) W := fun W => run_string_add_sum W _ _ (by rw [q1]; omega)
    have r2 : ∀ W, (Op.stringOp .add ((⟨#[98, 114, 97, 110, 99, 104, 32]⟩ : ByteArray) ++ s) (⟨#[32]⟩ : ByteArray)).run Tryz.prog W = .ok (.string ((⟨#[98, 114, 97, 110, 99, 104, 32]⟩ : ByteArray) ++ s ++ (⟨#[32]⟩ : ByteArray))) W := fun W => run_string_add_sum W _ _ (by simp only [ByteArray.size_append, q1, q2]; omega)
    have r3 : ∀ W, (Op.stringOp .add ((⟨#[98, 114, 97, 110, 99, 104, 32]⟩ : ByteArray) ++ s ++ (⟨#[32]⟩ : ByteArray)) D).run Tryz.prog W = .ok (.string ((⟨#[98, 114, 97, 110, 99, 104, 32]⟩ : ByteArray) ++ s ++ (⟨#[32]⟩ : ByteArray) ++ D)) W := fun W => run_string_add_sum W _ _ (by simp only [ByteArray.size_append, q1, q2]; omega)
    have r4 : ∀ W, (Op.stringOp .add ((⟨#[98, 114, 97, 110, 99, 104, 32]⟩ : ByteArray) ++ s ++ (⟨#[32]⟩ : ByteArray) ++ D) (⟨#[10]⟩ : ByteArray)).run Tryz.prog W = .ok (.string ((⟨#[98, 114, 97, 110, 99, 104, 32]⟩ : ByteArray) ++ s ++ (⟨#[32]⟩ : ByteArray) ++ D ++ (⟨#[10]⟩ : ByteArray))) W := fun W => run_string_add_sum W _ _ (by simp only [ByteArray.size_append, q1, q2, q3]; omega)
    have HE1 : Hid (cmX 2 s o D M = (⟨#[98, 114, 97, 110, 99, 104, 32]⟩ : ByteArray) ++ s ++ (⟨#[32]⟩ : ByteArray) ++ D ++ (⟨#[10]⟩ : ByteArray)) := rfl
    have HB1 : Hid (1 ≤ b) := hb1
    have HB2 : Hid (b ≤ 1000000000) := hb2
    clear hsz hD q1 q2 q3 hb1 hb2 hn
    go_wp2_with fail
    go_region_held3 (fun w' => (∀ bq oq, bq < u.heap.size → w'.cell? ⟨bq, oq, none⟩ = u.cell? ⟨bq, oq, none⟩) ∧ u.heap.size ≤ w'.heap.size ∧ Below u.heap.size u w')
      (exact sc_of (Nat.le_refl _) (by go_grown))
      (first
      | (go_at_call 15; refine (HDD.out HB1.out HB2.out _ (bchain KU.out (by go_grown))).mono ?_; rintro e y1 ⟨rfl, hb⟩; obtain ⟨hk1, hz1⟩ := bframe (B := u.heap.size) (X := u) (by go_grown) (by go_size) hb; clear hb))
    all_goals
      go_wp2_with fail
      go_ret
      exact ⟨str_ret (HE.out.trans HE1.out).symm, bchain KU.out (by go_grown)⟩
  · have hsz := (nmB_size hn).2
    have hoz := (nmB_size hno).2
    have q1 : (⟨#[109, 101, 114, 103, 101, 32]⟩ : ByteArray).size = 6 := rfl
    have q2 : (⟨#[32]⟩ : ByteArray).size = 1 := rfl
    have q3 : (⟨#[10]⟩ : ByteArray).size = 1 := rfl
    have r1 : ∀ W, (Op.stringOp .add (⟨#[109, 101, 114, 103, 101, 32]⟩ : ByteArray) s).run Tryz.prog W = .ok (.string ((⟨#[109, 101, 114, 103, 101, 32]⟩ : ByteArray) ++ s)) W := fun W => run_string_add_sum W _ _ (by rw [q1]; omega)
    have r2 : ∀ W, (Op.stringOp .add ((⟨#[109, 101, 114, 103, 101, 32]⟩ : ByteArray) ++ s) (⟨#[32]⟩ : ByteArray)).run Tryz.prog W = .ok (.string ((⟨#[109, 101, 114, 103, 101, 32]⟩ : ByteArray) ++ s ++ (⟨#[32]⟩ : ByteArray))) W := fun W => run_string_add_sum W _ _ (by simp only [ByteArray.size_append, q1, q2]; omega)
    have r3 : ∀ W, (Op.stringOp .add ((⟨#[109, 101, 114, 103, 101, 32]⟩ : ByteArray) ++ s ++ (⟨#[32]⟩ : ByteArray)) o).run Tryz.prog W = .ok (.string ((⟨#[109, 101, 114, 103, 101, 32]⟩ : ByteArray) ++ s ++ (⟨#[32]⟩ : ByteArray) ++ o)) W := fun W => run_string_add_sum W _ _ (by simp only [ByteArray.size_append, q1, q2]; omega)
    have r4 : ∀ W, (Op.stringOp .add ((⟨#[109, 101, 114, 103, 101, 32]⟩ : ByteArray) ++ s ++ (⟨#[32]⟩ : ByteArray) ++ o) (⟨#[10]⟩ : ByteArray)).run Tryz.prog W = .ok (.string ((⟨#[109, 101, 114, 103, 101, 32]⟩ : ByteArray) ++ s ++ (⟨#[32]⟩ : ByteArray) ++ o ++ (⟨#[10]⟩ : ByteArray))) W := fun W => run_string_add_sum W _ _ (by simp only [ByteArray.size_append, q1, q2, q3]; omega)
    have HE1 : Hid (cmX 3 s o D M = (⟨#[109, 101, 114, 103, 101, 32]⟩ : ByteArray) ++ s ++ (⟨#[32]⟩ : ByteArray) ++ o ++ (⟨#[10]⟩ : ByteArray)) := rfl
    clear hsz hoz q1 q2 q3 hn hno
    go_wp2_with fail
    go_ret
    exact ⟨str_ret (HE.out.trans HE1.out).symm, by first | exact KU.out | exact below_dN KU.out _⟩
  · have HE1 : Hid (cmX 4 s o D M = (⟨#[115, 119, 101, 101, 112, 10]⟩ : ByteArray)) := rfl
    go_wp2_with fail
    go_ret
    exact ⟨str_ret (HE.out.trans HE1.out).symm, by first | exact KU.out | exact below_dN KU.out _⟩
set_option maxRecDepth 100000 in
set_option maxHeartbeats 8000000 in
theorem spec_CmdText (k : Int) (s o : ByteArray) (b : Int) (A : Option Addr) (n cap : Nat) (mb : Bool) (D M : ByteArray) (w : World) (hs : s.size ≤ maxLen) (ho : o.size ≤ maxLen) (hD : D.size ≤ 30) (hM : M.size ≤ 100000000)
    (HM : ∀ W, Below w.heap.size w W → Calls Tryz.prog 21 #[.slice A n cap] W fun e w' => e = .returned (.bool mb) ∧ Below W.heap.size W w')
    (HD : 1 ≤ b → b ≤ 1000000000 → ∀ W, Below w.heap.size w W → Calls Tryz.prog 11 #[.int .i64 b] W fun e w' => e = .returned (.string D) ∧ Below W.heap.size W w')
    (HT : mb = true → ∀ W, Below w.heap.size w W → Calls Tryz.prog 12 #[.slice A n cap] W fun e w' => e = .returned (.string M) ∧ Below W.heap.size W w') :
    Calls Tryz.prog 5 #[.agg #[.int .i64 k, .string s, .string o, .int .i64 b, .slice A n cap]] w fun e w' => e = .returned (.string (cmT k s o b mb n D M)) ∧ Below w.heap.size w w' := by
  have HCR : Hid (∀ W, Below w.heap.size w W → Calls Tryz.prog 10 #[.agg #[.int .i64 k, .string s, .string o, .int .i64 b, .slice A n cap]] W fun e w' => e = .returned (.bool (cmB k s o b mb n)) ∧ Below W.heap.size W w') := fun W hW => spec_cmRight k s o b A n cap mb W hs ho (fun W' hW' => HM W' (bchain hW hW'))
  have HDD : Hid (1 ≤ b → b ≤ 1000000000 → ∀ W, Below w.heap.size w W → Calls Tryz.prog 11 #[.int .i64 b] W fun e w' => e = .returned (.string D) ∧ Below W.heap.size W w') := HD
  have HTT : Hid (mb = true → ∀ W, Below w.heap.size w W → Calls Tryz.prog 12 #[.slice A n cap] W fun e w' => e = .returned (.string M) ∧ Below W.heap.size W w') := HT
  have HDS : Hid (D.size ≤ 30) := hD
  have HMS : Hid (M.size ≤ 100000000) := hM
  clear HM HD HT hs ho hD hM
  obtain ⟨cb, HCB⟩ : ∃ c, Hid (cmB k s o b mb n = c) := ⟨_, rfl⟩
  go_enter Tryz.func5, Tryz.ntmps5
  go_wp2_with fail
  obtain ⟨X, HX, c_0, c_1, c_2, c_3, c_4, zX, KX⟩ := cm_box w k s o b A n cap
  rw [HX.out]
  clear HX
  refine (HCR.out _ KX.out).mono ?_
  rintro e u ⟨rfl, hb⟩
  rw [HCB.out]
  replace c_0 := cy hb c_0
  replace c_1 := cy hb c_1
  replace c_2 := cy hb c_2
  replace c_3 := cy hb c_3
  replace c_4 := cy hb c_4
  replace zX : w.heap.size < u.heap.size := Nat.lt_of_lt_of_le zX hb.size
  have KU : Hid (Below w.heap.size w u) := bchain KX.out hb
  clear hb HCR KX
  cases cb
  · go_wp2_with fail
    go_ret
    exact ⟨str_ret (cmT_no HCB.out).symm, KU.out⟩
  have HE : Hid (cmT k s o b mb n D M = cmX k s o D M) := cmT_yes HCB.out
  rcases cm_kind HCB.out with ⟨rfl, hn, hb1, hb2, hmb⟩ | ⟨rfl, hn, hb1, hb2⟩ | ⟨rfl, hn, hno⟩ | rfl
  · have hsz := (nmB_size hn).2
    have hD := HDS.out
    have hM := HMS.out
    have q1 : (⟨#[114, 117, 110, 32]⟩ : ByteArray).size = 4 := rfl
    have q2 : (⟨#[32]⟩ : ByteArray).size = 1 := rfl
    have q3 : (⟨#[10]⟩ : ByteArray).size = 1 := rfl
    have r1 : ∀ W, (Op.stringOp .add (⟨#[114, 117, 110, 32]⟩ : ByteArray) s).run Tryz.prog W = .ok (.string ((⟨#[114, 117, 110, 32]⟩ : ByteArray) ++ s)) W := fun W => run_string_add_sum W _ _ (by rw [q1]; omega)
    have r2 : ∀ W, (Op.stringOp .add ((⟨#[114, 117, 110, 32]⟩ : ByteArray) ++ s) (⟨#[32]⟩ : ByteArray)).run Tryz.prog W = .ok (.string ((⟨#[114, 117, 110, 32]⟩ : ByteArray) ++ s ++ (⟨#[32]⟩ : ByteArray))) W := fun W => run_string_add_sum W _ _ (by simp only [ByteArray.size_append, q1, q2]; omega)
    have r3 : ∀ W, (Op.stringOp .add ((⟨#[114, 117, 110, 32]⟩ : ByteArray) ++ s ++ (⟨#[32]⟩ : ByteArray)) D).run Tryz.prog W = .ok (.string ((⟨#[114, 117, 110, 32]⟩ : ByteArray) ++ s ++ (⟨#[32]⟩ : ByteArray) ++ D)) W := fun W => run_string_add_sum W _ _ (by simp only [ByteArray.size_append, q1, q2]; omega)
    have r4 : ∀ W, (Op.stringOp .add ((⟨#[114, 117, 110, 32]⟩ : ByteArray) ++ s ++ (⟨#[32]⟩ : ByteArray) ++ D) (⟨#[10]⟩ : ByteArray)).run Tryz.prog W = .ok (.string ((⟨#[114, 117, 110, 32]⟩ : ByteArray) ++ s ++ (⟨#[32]⟩ : ByteArray) ++ D ++ (⟨#[10]⟩ : ByteArray))) W := fun W => run_string_add_sum W _ _ (by simp only [ByteArray.size_append, q1, q2, q3]; omega)
    have r5 : ∀ W, (Op.stringOp .add ((⟨#[114, 117, 110, 32]⟩ : ByteArray) ++ s ++ (⟨#[32]⟩ : ByteArray) ++ D ++ (⟨#[10]⟩ : ByteArray)) M).run Tryz.prog W = .ok (.string ((⟨#[114, 117, 110, 32]⟩ : ByteArray) ++ s ++ (⟨#[32]⟩ : ByteArray) ++ D ++ (⟨#[10]⟩ : ByteArray) ++ M)) W := fun W => run_string_add_sum W _ _ (by simp only [ByteArray.size_append, q1, q2, q3]; omega)
    have HE1 : Hid (cmX 1 s o D M = (⟨#[114, 117, 110, 32]⟩ : ByteArray) ++ s ++ (⟨#[32]⟩ : ByteArray) ++ D ++ (⟨#[10]⟩ : ByteArray) ++ M) := rfl
    have HB1 : Hid (1 ≤ b) := hb1
    have HB2 : Hid (b ≤ 1000000000) := hb2
    have HMB : Hid (mb = true) := hmb
    clear hsz hD hM q1 q2 q3 hb1 hb2 hmb hn
    go_wp2_with fail
    go_region_held3 (fun w' => (∀ bq oq, bq < u.heap.size → w'.cell? ⟨bq, oq, none⟩ = u.cell? ⟨bq, oq, none⟩) ∧ u.heap.size ≤ w'.heap.size ∧ Below u.heap.size u w')
      (exact sc_of (Nat.le_refl _) (by go_grown))
      (first
      | (go_at_call 11; refine (HDD.out HB1.out HB2.out _ (bchain KU.out (by go_grown))).mono ?_; rintro e y1 ⟨rfl, hb⟩; obtain ⟨hk1, hz1⟩ := bframe (B := u.heap.size) (X := u) (by go_grown) (by go_size) hb; clear hb)
      | (go_at_call 12; refine (HTT.out HMB.out _ (bchain KU.out (by go_grown))).mono ?_; rintro e y2 ⟨rfl, hb⟩; obtain ⟨hk2, hz2⟩ := bframe (B := u.heap.size) (X := u) (by go_grown) (by go_size) hb; clear hb))
    all_goals
      go_wp2_with fail
      go_ret
      exact ⟨str_ret (HE.out.trans HE1.out).symm, bchain KU.out (by go_grown)⟩
  · have hsz := (nmB_size hn).2
    have hD := HDS.out
    have q1 : (⟨#[98, 114, 97, 110, 99, 104, 32]⟩ : ByteArray).size = 7 := rfl
    have q2 : (⟨#[32]⟩ : ByteArray).size = 1 := rfl
    have q3 : (⟨#[10]⟩ : ByteArray).size = 1 := rfl
    have r1 : ∀ W, (Op.stringOp .add (⟨#[98, 114, 97, 110, 99, 104, 32]⟩ : ByteArray) s).run Tryz.prog W = .ok (.string ((⟨#[98, 114, 97, 110, 99, 104, 32]⟩ : ByteArray) ++ s)) W := fun W => run_string_add_sum W _ _ (by rw [q1]; omega)
    have r2 : ∀ W, (Op.stringOp .add ((⟨#[98, 114, 97, 110, 99, 104, 32]⟩ : ByteArray) ++ s) (⟨#[32]⟩ : ByteArray)).run Tryz.prog W = .ok (.string ((⟨#[98, 114, 97, 110, 99, 104, 32]⟩ : ByteArray) ++ s ++ (⟨#[32]⟩ : ByteArray))) W := fun W => run_string_add_sum W _ _ (by simp only [ByteArray.size_append, q1, q2]; omega)
    have r3 : ∀ W, (Op.stringOp .add ((⟨#[98, 114, 97, 110, 99, 104, 32]⟩ : ByteArray) ++ s ++ (⟨#[32]⟩ : ByteArray)) D).run Tryz.prog W = .ok (.string ((⟨#[98, 114, 97, 110, 99, 104, 32]⟩ : ByteArray) ++ s ++ (⟨#[32]⟩ : ByteArray) ++ D)) W := fun W => run_string_add_sum W _ _ (by simp only [ByteArray.size_append, q1, q2]; omega)
    have r4 : ∀ W, (Op.stringOp .add ((⟨#[98, 114, 97, 110, 99, 104, 32]⟩ : ByteArray) ++ s ++ (⟨#[32]⟩ : ByteArray) ++ D) (⟨#[10]⟩ : ByteArray)).run Tryz.prog W = .ok (.string ((⟨#[98, 114, 97, 110, 99, 104, 32]⟩ : ByteArray) ++ s ++ (⟨#[32]⟩ : ByteArray) ++ D ++ (⟨#[10]⟩ : ByteArray))) W := fun W => run_string_add_sum W _ _ (by simp only [ByteArray.size_append, q1, q2, q3]; omega)
    have HE1 : Hid (cmX 2 s o D M = (⟨#[98, 114, 97, 110, 99, 104, 32]⟩ : ByteArray) ++ s ++ (⟨#[32]⟩ : ByteArray) ++ D ++ (⟨#[10]⟩ : ByteArray)) := rfl
    have HB1 : Hid (1 ≤ b) := hb1
    have HB2 : Hid (b ≤ 1000000000) := hb2
    clear hsz hD q1 q2 q3 hb1 hb2 hn
    go_wp2_with fail
    go_region_held3 (fun w' => (∀ bq oq, bq < u.heap.size → w'.cell? ⟨bq, oq, none⟩ = u.cell? ⟨bq, oq, none⟩) ∧ u.heap.size ≤ w'.heap.size ∧ Below u.heap.size u w')
      (exact sc_of (Nat.le_refl _) (by go_grown))
      (first
      | (go_at_call 11; refine (HDD.out HB1.out HB2.out _ (bchain KU.out (by go_grown))).mono ?_; rintro e y1 ⟨rfl, hb⟩; obtain ⟨hk1, hz1⟩ := bframe (B := u.heap.size) (X := u) (by go_grown) (by go_size) hb; clear hb))
    all_goals
      go_wp2_with fail
      go_ret
      exact ⟨str_ret (HE.out.trans HE1.out).symm, bchain KU.out (by go_grown)⟩
  · have hsz := (nmB_size hn).2
    have hoz := (nmB_size hno).2
    have q1 : (⟨#[109, 101, 114, 103, 101, 32]⟩ : ByteArray).size = 6 := rfl
    have q2 : (⟨#[32]⟩ : ByteArray).size = 1 := rfl
    have q3 : (⟨#[10]⟩ : ByteArray).size = 1 := rfl
    have r1 : ∀ W, (Op.stringOp .add (⟨#[109, 101, 114, 103, 101, 32]⟩ : ByteArray) s).run Tryz.prog W = .ok (.string ((⟨#[109, 101, 114, 103, 101, 32]⟩ : ByteArray) ++ s)) W := fun W => run_string_add_sum W _ _ (by rw [q1]; omega)
    have r2 : ∀ W, (Op.stringOp .add ((⟨#[109, 101, 114, 103, 101, 32]⟩ : ByteArray) ++ s) (⟨#[32]⟩ : ByteArray)).run Tryz.prog W = .ok (.string ((⟨#[109, 101, 114, 103, 101, 32]⟩ : ByteArray) ++ s ++ (⟨#[32]⟩ : ByteArray))) W := fun W => run_string_add_sum W _ _ (by simp only [ByteArray.size_append, q1, q2]; omega)
    have r3 : ∀ W, (Op.stringOp .add ((⟨#[109, 101, 114, 103, 101, 32]⟩ : ByteArray) ++ s ++ (⟨#[32]⟩ : ByteArray)) o).run Tryz.prog W = .ok (.string ((⟨#[109, 101, 114, 103, 101, 32]⟩ : ByteArray) ++ s ++ (⟨#[32]⟩ : ByteArray) ++ o)) W := fun W => run_string_add_sum W _ _ (by simp only [ByteArray.size_append, q1, q2]; omega)
    have r4 : ∀ W, (Op.stringOp .add ((⟨#[109, 101, 114, 103, 101, 32]⟩ : ByteArray) ++ s ++ (⟨#[32]⟩ : ByteArray) ++ o) (⟨#[10]⟩ : ByteArray)).run Tryz.prog W = .ok (.string ((⟨#[109, 101, 114, 103, 101, 32]⟩ : ByteArray) ++ s ++ (⟨#[32]⟩ : ByteArray) ++ o ++ (⟨#[10]⟩ : ByteArray))) W := fun W => run_string_add_sum W _ _ (by simp only [ByteArray.size_append, q1, q2, q3]; omega)
    have HE1 : Hid (cmX 3 s o D M = (⟨#[109, 101, 114, 103, 101, 32]⟩ : ByteArray) ++ s ++ (⟨#[32]⟩ : ByteArray) ++ o ++ (⟨#[10]⟩ : ByteArray)) := rfl
    clear hsz hoz q1 q2 q3 hn hno
    go_wp2_with fail
    go_ret
    exact ⟨str_ret (HE.out.trans HE1.out).symm, by first | exact KU.out | exact below_dN KU.out _⟩
  · have HE1 : Hid (cmX 4 s o D M = (⟨#[115, 119, 101, 101, 112, 10]⟩ : ByteArray)) := rfl
    go_wp2_with fail
    go_ret
    exact ⟨str_ret (HE.out.trans HE1.out).symm, by first | exact KU.out | exact below_dN KU.out _⟩
end Go.Proofs.YtelehnemlejcoaaGreatDoor
namespace Go.Proofs.YtelehnemlejcoaaGreatDoor
open Go.RowKit
set_option maxRecDepth 100000 in
set_option maxHeartbeats 2000000 in
theorem laws_szStmtSL {A : Option Addr} {n cap : Nat} {K C R : Nat → Int} {T : Nat → ByteArray} {M : Nat → Int} (lf : Int) (w : World) (h : MsRow w A n K C R T M) (hl0 : 0 ≤ lf) (hl1 : lf ≤ 1048576) :
    Calls Tryz.prog 9 #[.slice A n cap, .int .i64 lf] w fun e w' => ∃ z : Int, e = .returned (.int .i64 z) ∧ (0 ≤ z → n ≤ 1048576 ∧ ∀ i, i < n → (T i).size ≤ 1048576) ∧ Below w.heap.size w w' := by
  have HR : Hid (MsRow w A n K C R T M) := h
  have hm := h.1
  clear h
  unfold maxLen at hm
  by_cases hbig : lf - (n : Int) < 0
  · go_enter Tryz.func9, Tryz.ntmps9
    go_wp2_with fail
    go_ret
    exact ⟨-1, rfl, fun h => by omega, by go_grown⟩
  · go_enter Tryz.func9, Tryz.ntmps9
    go_wp2_with fail
    go_loopw [1, 5] (fun l i wr => ∃ (t : Nat) (z : Int), t ≤ n ∧ i = .int .i64 t ∧ l = .int .i64 z ∧ 0 ≤ z ∧ z ≤ 1048576 ∧ (∀ i, i < t → (T i).size ≤ 1048576) ∧ Below w.heap.size w wr) (fun _ i _ => n - (intOf i).toNat)
    case atStart => exact ⟨0, _, Nat.zero_le _, rfl, rfl, by omega, by omega, fun i hi => by omega, Below.refl _ _⟩
    case round =>
      obtain ⟨t, z, ht, rfl, rfl, z0, z1, hall, hbel⟩ := hrel
      have HALL : Hid (∀ i, i < t → (T i).size ≤ 1048576) := hall
      clear hall
      by_cases hlt : t < n
      · obtain ⟨b, o, rfl, hl, c0, c1, c2, c3, c4, hs⟩ := HR.out.2 t hlt
        rw [← hbel.cell (p := ⟨_, _, none⟩) hl] at c0 c1 c2 c3 c4
        have q0 : (0 : Int) ≤ (t : Int) := by omega
        have q1 : (t : Int) < (n : Int) := by omega
        have HB : Hid (Below w.heap.size w wr) := hbel
        clear hbel
        go_wp2_with fail
        refine (laws_szStmt _ _ _ _ _ _ _ hs z0 z1).mono ?_
        rintro e w2 ⟨rfl, hb⟩
        have HB2 : Hid (Below w.heap.size w w2) := bchain HB.out hb
        clear hb c0 c1 c2 c3 c4
        have HZ : Hid (szv z (T t).size ≤ 1048576) := by show _ ≤ _; unfold szv; split <;> omega
        have HY : Hid (¬ szv z (T t).size < 0 → (T t).size ≤ 1048576) := fun h => by unfold szv at h; split at h <;> omega
        by_cases hz : szv z (T t).size < 0
        · go_wp2_with fail
          go_ret
          exact ⟨_, rfl, fun h => by omega, HB2.out⟩
        · go_wp2_with fail
          go_roundw
          case rel => exact ⟨t + 1, _, by omega, by go_num, rfl, by omega, HZ.out, fun i hi => by
            by_cases e : i = t
            · subst e; exact HY.out hz
            · exact HALL.out i (by omega), HB2.out⟩
          case measure => simp [intOf]; omega
      · have q1 : ¬ (t : Int) < (n : Int) := by omega
        go_wp2_with fail
        go_ret
        exact ⟨_, rfl, fun h => ⟨by omega, fun i hi => HALL.out i (by omega)⟩, hbel⟩
set_option maxRecDepth 100000 in
set_option maxHeartbeats 2000000 in
theorem laws_szCmd (k : Int) (s o : ByteArray) (b : Int) {A : Option Addr} {n cap : Nat} {K C R : Nat → Int} {T : Nat → ByteArray} {M : Nat → Int} (w : World) (h : MsRow w A n K C R T M) (hs : s.size ≤ maxLen) (ho : o.size ≤ maxLen) :
    Calls Tryz.prog 4 #[.agg #[.int .i64 k, .string s, .string o, .int .i64 b, .slice A n cap], .int .i64 1048576] w fun e w' => ∃ z : Int, e = .returned (.int .i64 z) ∧ (0 ≤ z → s.size ≤ 1048576 ∧ o.size ≤ 1048576 ∧ n ≤ 1048576 ∧ ∀ i, i < n → (T i).size ≤ 1048576) ∧ Below w.heap.size w w' := by
  have HR : Hid (MsRow w A n K C R T M) := h
  unfold maxLen at hs ho
  clear h
  by_cases h1 : (1048576 : Int) - (s.size : Int) < 0
  · go_enter Tryz.func4, Tryz.ntmps4
    go_wp2_with fail
    go_ret
    exact ⟨-1, rfl, fun h => by omega, by go_grown⟩
  by_cases h2 : (1048576 : Int) - (s.size : Int) - (o.size : Int) < 0
  · go_enter Tryz.func4, Tryz.ntmps4
    go_wp2_with fail
    go_ret
    exact ⟨-1, rfl, fun h => by omega, by go_grown⟩
  go_enter Tryz.func4, Tryz.ntmps4
  go_wp2_with fail
  refine (laws_szStmtSL _ _ (HR.out.below (by go_grown)) (by omega) (by omega)).mono ?_
  rintro e u ⟨z, rfl, hz, hb⟩
  have KU : Hid (Below w.heap.size w u) := Below.trans (by go_grown) (hb.mono (by simp))
  clear hb
  by_cases hn : z < 0
  · go_wp2_with fail
    go_ret
    exact ⟨-1, rfl, fun h => by omega, KU.out⟩
  · have HZ : Hid (n ≤ 1048576 ∧ ∀ i, i < n → (T i).size ≤ 1048576) := hz (by omega)
    clear hz
    go_wp2_with fail
    go_ret
    exact ⟨_, rfl, fun h => ⟨by omega, by omega, HZ.out.1, HZ.out.2⟩, KU.out⟩
set_option maxRecDepth 100000 in
set_option maxHeartbeats 4000000 in
theorem laws_toCmd (k : Int) (s o : ByteArray) (b : Int) {A : Option Addr} {n cap : Nat} {K C R : Nat → Int} {T : Nat → ByteArray} {M : Nat → Int} (w : World) (h : MsRow w A n K C R T M) (hn : n ≤ 1048576) (hT : ∀ i, i < n → (T i).size ≤ maxLen) :
    Calls Tryz.prog 6 #[.agg #[.int .i64 k, .string s, .string o, .int .i64 b, .slice A n cap]] w fun e w' => ∃ A' cap', e = .returned (.agg #[.int .i64 k, .string s, .string o, .int .i64 b, .slice A' n cap']) ∧ MsRow w' A' n K C R T M ∧ Below w.heap.size w w' := by
  have HR : Hid (MsRow w A n K C R T M) := h
  have HN : Hid (n ≤ 1048576) := hn
  have HT : Hid (∀ i, i < n → (T i).size ≤ maxLen) := hT
  clear h hn hT
  go_enter Tryz.func6, Tryz.ntmps6
  go_wp2_with fail
  refine (laws_toStmtS _ (HR.out.below (by go_grown)) HN.out).mono ?_
  rintro e w9 ⟨v, rfl, ho, hb⟩
  obtain ⟨KB, kb, rfl, _, _⟩ := own_shape ho
  have HO : Hid (w9.ownsRow (w.heap.size + 3) 51 5 (.slice KB n kb) n (msX K C R T M n)) := own_mono ho (by go_size)
  obtain ⟨hc9, hf9, hC9, hF9, hz9, hk9, m0, m1, m2⟩ := bk3 (w := w) (by go_grown) (by go_size) hb
  clear hb ho
  go_wp2_with fail
  refine bodyPost_ret (v := .agg #[.int .i64 k, .string s, .string o, .int .i64 b, .slice KB n kb]) ?_ rfl ⟨KB, kb, rfl, ?_, by go_grown⟩
  · simp (maxDischargeDepth := 9) [results, Tryz.results6, go_sem, *]
  · refine ms_of_own (B := w.heap.size + 3) (cap := kb) ?_ HT.out
    repeat (refine ownsRow_setCell_below ?_ (by simp) _)
    exact HO.out
set_option maxRecDepth 100000 in
set_option maxHeartbeats 4000000 in
theorem laws_eqCmd (k : Int) (s o : ByteArray) (b : Int) {A A' : Option Addr} {n cap cap' : Nat} {K C R : Nat → Int} {T : Nat → ByteArray} {M : Nat → Int} (w : World) (h : MsRow w A n K C R T M) (h' : MsRow w A' n K C R T M) :
    Calls Tryz.prog 8 #[.agg #[.int .i64 k, .string s, .string o, .int .i64 b, .slice A n cap], .agg #[.int .i64 k, .string s, .string o, .int .i64 b, .slice A' n cap']] w fun e w' => e = .returned (.bool true) ∧ Below w.heap.size w w' := by
  have HR : Hid (MsRow w A n K C R T M) := h
  have HR' : Hid (MsRow w A' n K C R T M) := h'
  have e1 : (s.toList == s.toList) = true := by simp
  have e2 : (o.toList == o.toList) = true := by simp
  clear h h'
  go_enter Tryz.func8, Tryz.ntmps8
  go_wp2_with fail
  refine (laws_eqStmtS _ (HR.out.below (by go_grown)) (HR'.out.below (by go_grown))).mono ?_
  rintro e u ⟨rfl, hb⟩
  have KU : Hid (Below w.heap.size w u) := Below.trans (by go_grown) (hb.mono (by simp; try omega))
  clear hb
  go_wp2_with fail
  go_ret
  exact ⟨rfl, KU.out⟩
end Go.Proofs.YtelehnemlejcoaaGreatDoor
