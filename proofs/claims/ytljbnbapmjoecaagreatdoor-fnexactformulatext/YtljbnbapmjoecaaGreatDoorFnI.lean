import Derived.Test.YtljbnbapmjoecaaGreatDoorFnF
namespace Go.Proofs.YtljbnbapmjoecaaGreatDoor
open Go.RowKit
set_option linter.unusedSimpArgs false

def deepB (G : Nat → List Int) (n : Nat) : Bool := (proc G (fun _ => 0) n n).isSome
def rowOf (arr : Nat → Int) (n : Nat) : List Value := (List.range n).map fun j => .int .i64 (arr j)
theorem rowOf_len (arr : Nat → Int) (n : Nat) : (rowOf arr n).length = n := by simp [rowOf]
theorem rowOf_at (arr : Nat → Int) (n j : Nat) (h : j < n) : (rowOf arr n)[j]? = some (.int .i64 (arr j)) := by
  simp [rowOf, h]
theorem rowOf_set (arr : Nat → Int) (n a : Nat) (x : Int) (h : a < n) : (rowOf arr n).set a (.int .i64 x) = rowOf (fun j => if j = a then x else arr j) n := by
  apply List.ext_getElem?
  intro j
  by_cases hj : j < n
  · by_cases e : a = j
    · subst e
      rw [List.getElem?_set_self (by rw [rowOf_len]; exact h), rowOf_at _ _ _ h, if_pos rfl]
    · rw [List.getElem?_set_ne e, rowOf_at _ _ _ hj, rowOf_at _ _ _ hj, if_neg (fun h => e h.symm)]
  · rw [List.getElem?_eq_none (by simp [rowOf_len]; omega), List.getElem?_eq_none (by simp [rowOf_len]; omega)]
theorem rowOf_zero (n : Nat) : List.replicate n (Value.int .i64 0) = rowOf (fun _ => 0) n := by
  apply List.ext_getElem?
  intro j
  by_cases hj : j < n
  · rw [rowOf_at _ _ _ hj, List.getElem?_replicate, if_pos hj]
  · rw [List.getElem?_eq_none (by simp; omega), List.getElem?_eq_none (by simp [rowOf_len]; omega)]
/-- Of the kids up to u. -/
def arrU (ks : List Int) (arr : Nat → Int) (d : Int) (u : Nat) : Nat → Int := fun j => if (j : Int) ∈ ks.take u then d else arr j
theorem arrU_succ {ks : List Int} {arr : Nat → Int} {d : Int} {u a : Nat} (h : u < ks.length) (ha : ks.getD u 0 = (a : Int)) : (fun j => if j = a then d else arrU ks arr d u j) = arrU ks arr d (u + 1) := by
  funext j
  unfold arrU
  have e : ks.take (u + 1) = ks.take u ++ [(a : Int)] := by
    rw [List.take_succ_eq_append_getElem h, ← ha, List.getD_eq_getElem?_getD, List.getElem?_eq_getElem h]; rfl
  rw [e]
  by_cases h1 : j = a
  · rw [if_pos h1, if_pos (by subst h1; simp)]
  · rw [if_neg h1]
    by_cases h2 : (j : Int) ∈ ks.take u
    · rw [if_pos h2, if_pos (List.mem_append_left _ h2)]
    · rw [if_neg h2, if_neg]
      intro h3
      rcases List.mem_append.1 h3 with h3 | h3
      · exact h2 h3
      · simp at h3; omega
theorem proc_none {G : Nat → List Int} {n s : Nat} {arr : Nat → Int} (hs : s < n) (h : proc G (fun _ => 0) n (n - (s + 1)) = some arr) (h12 : 12 ≤ arr s) : deepB G n = false := by
  have e : n = (n - (s + 1)) + (s + 1) := by omega
  rw [deepB]
  conv => lhs; rw [show proc G (fun _ => 0) n n = proc G (fun _ => 0) n ((n - (s + 1)) + (s + 1)) by rw [← e]]
  rw [proc_add, h]
  show (proc G arr (n - (n - (s + 1))) (s + 1)).isSome = false
  rw [show n - (n - (s + 1)) = s + 1 by omega, proc, show s + 1 - 1 = s by omega, stepA, if_pos h12]
  rfl
theorem proc_step {G : Nat → List Int} {n s : Nat} {arr : Nat → Int} (hs : s < n) (h : proc G (fun _ => 0) n (n - (s + 1)) = some arr) (h12 : ¬ 12 ≤ arr s) : proc G (fun _ => 0) n (n - s) = some (fun j : Nat => if (j : Int) ∈ G s then arr s + 1 else arr j) := by
  rw [show n - s = (n - (s + 1)) + 1 by omega, proc_add, h]
  show proc G arr (n - (n - (s + 1))) 1 = _
  rw [show n - (n - (s + 1)) = s + 1 by omega, proc, show s + 1 - 1 = s by omega, stepA, if_neg h12]
  rfl

theorem infoIntI : (Tryz.prog.info? 3).map (fun i => (i.zero, i.size, i.bytes)) = some (some (.int .i64 0), 1, 8) := by kernel_rfl

set_option maxRecDepth 100000 in
set_option maxHeartbeats 8000000 in
theorem impl_notTooDeep {A : Option Addr} {n cap : Nat} {F : Nat → FN} (w : World) (HR : Hid (FnRow w A n F)) (hn : n ≤ 60) (hkn : ∀ i, i < n → (F i).kids.length ≤ 1048576) (HG : Hid (InRange (fun j => (F j).kids) n)) :
    Calls Tryz.prog 45 #[.slice A n cap] w fun e w' => e = .returned (.bool (deepB (fun j => (F j).kids) n)) ∧ Below w.heap.size w w' := by
  have HKN : Hid (∀ i, i < n → (F i).kids.length ≤ 1048576) := hkn
  clear hkn
  obtain ⟨i0, hi, iz0, iz1, iz2⟩ := info_parts infoIntI
  go_enter Tryz.func45, Tryz.ntmps45
  go_wp2_with (refine wpList_make_full _ rfl _ _ 122 rfl w.heap.size 3 i0 _ 1 Tryz.underlying122 hi iz0 iz1 _ _ _ _ n rfl rfl rfl rfl ?m1 ?m2 ?m3 ?_)
  case m1 => rw [iz2]; omega
  case m2 => unfold maxLen; omega
  case m3 => exact Nat.le_refl _
  intro w1 hown hgrow
  have hg1 : Below w.heap.size w w1 := (Below.refl _ _).grown hgrow (Nat.le_refl _) (fun k hk => by cases hk)
  have HO : Hid (w1.ownsRow w.heap.size 3 1 (.slice (some ⟨w.heap.size, 0, none⟩) n n) n (rowOf (fun _ => 0) n)) := by
    show World.ownsRow _ _ _ _ _ _ _
    rw [← rowOf_zero, ← toList_madeCells_one, ← Nat.mul_one n]
    simpa using hown
  clear hgrow hown
  go_wp2_with fail
  go_loopw [4] (fun i wr => ∃ (t : Nat) (arr : Nat → Int), t ≤ n ∧ i = .int .i64 ((t : Int) - 1) ∧ proc (fun j => (F j).kids) (fun _ => 0) n (n - t) = some arr ∧ (∀ j, 0 ≤ arr j ∧ arr j ≤ 12) ∧ wr.ownsRow w.heap.size 3 1 (.slice (some ⟨w.heap.size, 0, none⟩) n n) n (rowOf arr n) ∧ Below w.heap.size w wr) (fun i _ => (intOf i + 1).toNat)
  case atStart => exact ⟨n, fun _ => 0, Nat.le_refl _, rfl, by rw [Nat.sub_self]; rfl, fun j => by show (0 : Int) ≤ 0 ∧ (0 : Int) ≤ 12; omega, HO.out, hg1⟩
  case round =>
    clear HO hg1
    obtain ⟨t, arr, ht, rfl, hpr, hbd, hown, hbel⟩ := hrel
    have HPR : Hid (proc (fun j => (F j).kids) (fun _ => 0) n (n - t) = some arr) := hpr
    have HBD : Hid (∀ j, 0 ≤ arr j ∧ arr j ≤ 12) := hbd
    have HO : Hid (wr.ownsRow w.heap.size 3 1 (.slice (some ⟨w.heap.size, 0, none⟩) n n) n (rowOf arr n)) := hown
    have HB : Hid (Below w.heap.size w wr) := hbel
    clear hpr hbd hown
    match t, ht, HPR with
    | 0, ht, HPR =>
      have HE : Hid (deepB (fun j => (F j).kids) n = true) := by show _ = _; rw [deepB, show proc (fun j => (F j).kids) (fun _ => 0) n n = some arr by simpa using HPR.out]; rfl
      clear hbel
      go_wp2_with fail
      go_ret
      exact ⟨ret_bool HE.out.symm, HB.out⟩
    | s + 1, ht, HPR =>
      obtain ⟨b, o, KA, kc, rfl, hl, ck, ck0, hki⟩ := kids_at HR.out s (by omega)
      rw [← hbel.cell (p := ⟨_, _, none⟩) hl] at ck
      obtain ⟨ks, HKS⟩ : ∃ ks, Hid ((F s).kids = ks) := ⟨_, rfl⟩
      have hkl := HKN.out s (by omega)
      rw [HKS.out] at ck hki hkl
      have HKI : Hid (IntRow w KA ks) := hki
      obtain ⟨kl, HKL⟩ : ∃ kl, Hid (ks.length = kl) := ⟨_, rfl⟩
      rw [HKL.out] at ck hkl
      clear hki ck0 hbel
      obtain ⟨A', cap', e, _, hc⟩ := own_shape HO.out
      cases e
      obtain ⟨g', e', _, hg', d0, f0⟩ := hc s (by omega)
      cases e'
      rw [rowOf_at _ _ _ (by omega)] at d0
      clear hc
      obtain ⟨x, HX⟩ : ∃ x, Hid (arr s = x) := ⟨_, rfl⟩
      rw [HX.out] at d0
      have hx0 := HBD.out s
      rw [HX.out] at hx0
      obtain ⟨hx1, hx2⟩ := hx0
      have s0 : (0 : Int) ≤ (s : Int) := by omega
      have s1 : (s : Int) < (n : Int) := by omega
      have s2 : (s : Int) + 1 - 1 = (s : Int) := by omega
      by_cases h12 : 12 ≤ x
      · have HE : Hid (deepB (fun j => (F j).kids) n = false) := proc_none (by omega) HPR.out (by rw [HX.out]; exact h12)
        go_wp2_with fail
        go_ret
        exact ⟨ret_bool HE.out.symm, HB.out⟩
      have HST : Hid (proc (fun j => (F j).kids) (fun _ => 0) n (n - s) = some (arrU ks arr (x + 1) kl)) := by
        show _ = _
        rw [proc_step (by omega) HPR.out (by rw [HX.out]; exact h12)]
        congr 1
        funext j
        show (if (j : Int) ∈ (F s).kids then arr s + 1 else arr j) = _
        rw [HKS.out, HX.out, arrU, List.take_of_length_le (by rw [HKL.out]; exact Nat.le_refl _)]
      have HSN : Hid (∀ u, (s : Int) ∉ ks.take u) := fun u hm => by
        have := HG.out s (by omega) (s : Int) (by show _ ∈ (F s).kids; rw [HKS.out]; exact List.mem_of_mem_take hm)
        omega
      go_wp2_with fail
      go_loopw [28] (fun j wi => ∃ (u : Nat), u ≤ kl ∧ j = .int .i64 u ∧ wi.ownsRow w.heap.size 3 1 (.slice (some ⟨w.heap.size, 0, none⟩) n n) n (rowOf (arrU ks arr (x + 1) u) n) ∧ Below w.heap.size w wi) (fun j _ => kl - (intOf j).toNat)
      case atStart => exact ⟨0, Nat.zero_le _, rfl, by rw [show arrU ks arr (x + 1) 0 = arr by funext j; simp [arrU]]; exact HO.out, HB.out⟩
      case round =>
        clear d0 f0 hg' HO HB ck
        obtain ⟨u, hu, rfl, hown, hbi⟩ := hrel
        have HO : Hid (wr.ownsRow w.heap.size 3 1 (.slice (some ⟨w.heap.size, 0, none⟩) n n) n (rowOf (arrU ks arr (x + 1) u) n)) := hown
        have HB : Hid (Below w.heap.size w wr) := hbi
        clear hown
        by_cases hlt : u < kl
        · have hs : u < ks.length := by rw [HKL.out]; exact hlt
          obtain ⟨b', o', rfl, hl', e1⟩ := HKI.out.2 u hs
          rw [← hbi.cell (p := ⟨_, _, none⟩) hl'] at e1
          have hmem : ks.getD u 0 ∈ ks := by rw [List.getD_eq_getElem?_getD, List.getElem?_eq_getElem hs]; exact List.getElem_mem hs
          have hr := HG.out s (by omega) (ks.getD u 0) (by show _ ∈ (F s).kids; rw [HKS.out]; exact hmem)
          obtain ⟨a, HA⟩ : ∃ a : Nat, Hid (ks.getD u 0 = (a : Int)) := ⟨(ks.getD u 0).toNat, by show _ = _; omega⟩
          have hai : (a : Int) < (s : Int) := by rw [HA.out] at hr; exact hr.2
          rw [HA.out] at e1
          clear hr hmem hbi
          obtain ⟨A', cap', e, _, hc⟩ := own_shape HO.out
          cases e
          obtain ⟨g', e', _, hg', d0, f0⟩ := hc s (by omega)
          cases e'
          obtain ⟨g', e', _, _, d1, f1⟩ := hc a (by omega)
          cases e'
          rw [rowOf_at _ _ _ (by omega)] at d0 d1
          have ex : arrU ks arr (x + 1) u s = x := by rw [arrU, if_neg (HSN.out u), HX.out]
          rw [ex] at d0
          obtain ⟨y, HY⟩ : ∃ y, Hid (arrU ks arr (x + 1) u a = y) := ⟨_, rfl⟩
          rw [HY.out] at d1
          clear hc ex
          have HT : Hid ((wr.setCell ⟨w.heap.size, a, none⟩ (.int .i64 (x + 1))).ownsRow w.heap.size 3 1 (.slice (some ⟨w.heap.size, 0, none⟩) n n) n (rowOf (arrU ks arr (x + 1) (u + 1)) n) ∧ wr.grownBy (wr.setCell ⟨w.heap.size, a, none⟩ (.int .i64 (x + 1))) (some w.heap.size)) := by
            have h9 := HO.out.stored a (.int .i64 (x + 1))
            rw [rowOf_set _ _ _ _ (by omega), arrU_succ hs HA.out] at h9
            exact h9
          have u0 : (0 : Int) ≤ (u : Int) := by omega
          have u1 : (u : Int) < (kl : Int) := by omega
          have a0 : (0 : Int) ≤ (a : Int) := by omega
          have a1 : (a : Int) < (n : Int) := by omega
          clear HO
          go_wp2_with fail
          all_goals
            go_roundw
            case rel => exact ⟨u + 1, by omega, by go_num, HT.out.1, HB.out.grown HT.out.2 HB.out.size (fun k hk => by cases hk; exact Nat.le_refl _)⟩
            case measure => simp [intOf]; omega
        · have u1 : ¬ (u : Int) < (kl : Int) := by omega
          obtain rfl : u = kl := by omega
          clear hbi
          go_wp2_with fail
          go_roundw
          case rel => exact ⟨s, arrU ks arr (x + 1) u, by omega, by first | rfl | (congr 1; omega), HST.out, fun j => by
            unfold arrU
            split
            · omega
            · exact HBD.out j, HO.out, HB.out⟩
          case measure => first | (simp [intOf]; done) | (simp [intOf]; omega)
end Go.Proofs.YtljbnbapmjoecaaGreatDoor
