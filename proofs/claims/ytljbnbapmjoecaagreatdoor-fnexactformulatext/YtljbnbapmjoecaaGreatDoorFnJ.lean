import Derived.Test.YtljbnbapmjoecaaGreatDoorFnE
import Derived.Test.YtljbnbapmjoecaaGreatDoorFnB
import Derived.Test.YtljbnbapmjoecaaGreatDoorFnG
import Derived.Test.YtljbnbapmjoecaaGreatDoorFnH
import Derived.Test.YtljbnbapmjoecaaGreatDoorFnI
namespace Go.Proofs.YtljbnbapmjoecaaGreatDoor
open Go.RowKit
set_option linter.unusedSimpArgs false
set_option linter.unusedVariables false

def nodeX (x : FN) : Bool := nodeB x.k x.o x.ck x.cn x.cs x.ac x.ar x.af x.ag x.bc x.br x.bf x.bg x.kids.length
def nodesB (F : Nat → FN) (n : Nat) : Bool := (List.range n).all fun i => nodeX (F i)
/-- A right formula. -/
def fOkB (F : Nat → FN) (n : Nat) : Bool := decide (1 ≤ n ∧ n ≤ 60) && nodesB F n && kidsB (fun j => (F j).kids) n && (arsB F n && !decide ((F (n - 1)).k = 3)) && deepB (fun j => (F j).kids) n
theorem all_no {f : Nat → Bool} {n k : Nat} (hk : k < n) (h : f k = false) : (List.range n).all f = false := by
  rw [List.all_eq_false]
  exact ⟨k, List.mem_range.2 hk, by simp [h]⟩
theorem all_yes {f : Nat → Bool} {n : Nat} (h : ∀ i, i < n → f i = true) : (List.range n).all f = true := by
  rw [List.all_eq_true]
  exact fun i hi => h i (List.mem_range.1 hi)
theorem kidsB_stk {G : Nat → List Int} {n : Nat} (h : kidsB G n = true) : ∃ x, stk G n = some [x] := by
  unfold kidsB at h
  split at h
  · rename_i s hs
    have hl := of_decide_eq_true h
    match s, hl with
    | [x], _ => exact ⟨x, hs⟩
  · cases h
theorem kidsB_range {G : Nat → List Int} {n : Nat} (h : kidsB G n = true) : InRange G n := by
  obtain ⟨x, hx⟩ := kidsB_stk h
  exact (stk_cov G n _ hx).2
theorem kidsB_tree (G : Nat → List Int) (n : Nat) : kidsB G (n + 1) = decide (tree G n = 0) := by
  rw [Bool.eq_iff_iff, decide_eq_true_eq]
  constructor
  · intro h; exact (stk_tree G n).1 (kidsB_stk h)
  · intro h
    obtain ⟨x, hx⟩ := (stk_tree G n).2 h
    rw [kidsB_some hx]
    rfl
theorem deepB_deep {G : Nat → List Int} {n : Nat} (hG : InRange G (n + 1)) (ht : tree G n = 0) : deepB G (n + 1) = decide (deep G n ≤ 12) := by
  rw [Bool.eq_iff_iff, decide_eq_true_eq, deepB, Option.isSome_iff_exists]
  exact proc_deep hG ht
theorem fOk_size {F : Nat → FN} {n : Nat} (h : n < 1 ∨ 60 < n) : fOkB F n = false := by
  have e : decide (1 ≤ n ∧ n ≤ 60) = false := by simp; omega
  simp [fOkB, e]
theorem fOk_node {F : Nat → FN} {n k : Nat} (hk : k < n) (h : nodeX (F k) = false) : fOkB F n = false := by
  have e : nodesB F n = false := all_no hk h
  simp [fOkB, e]
theorem fOk_kids {F : Nat → FN} {n : Nat} (h : kidsB (fun j => (F j).kids) n = false) : fOkB F n = false := by simp [fOkB, h]
theorem fOk_ars {F : Nat → FN} {n : Nat} (h : arsB F n = false) : fOkB F n = false := by simp [fOkB, h]
theorem fOk_rest {F : Nat → FN} {n : Nat} (h1 : 1 ≤ n) (h2 : n ≤ 60) (hn : nodesB F n = true) : fOkB F n = (kidsB (fun j => (F j).kids) n && (arsB F n && !decide ((F (n - 1)).k = 3)) && deepB (fun j => (F j).kids) n) := by
  simp [fOkB, h1, h2, hn]

theorem impl_node (x : FN) {KA : Option Addr} {kc : Nat} (w : World) (hs : x.cs.size ≤ maxLen) (hft : FT w) :
    Calls Tryz.prog 42 #[.agg #[.int .i64 x.k, .int .i64 x.o, .int .i64 x.ck, .int .i64 x.cn, .string x.cs, .int .i64 x.ac, .int .i64 x.ar, .bool x.af, .bool x.ag, .int .i64 x.bc, .int .i64 x.br, .bool x.bf, .bool x.bg, .slice KA x.kids.length kc]] w fun e w' => e = .returned (.bool (nodeX x)) ∧ Below w.heap.size w w' := by
  obtain ⟨k, o, ck, cn, cs, ac, ar, af, ag, bc, br, bf, bg, ks⟩ := x
  show Calls _ _ _ _ fun e w' => e = .returned (.bool (nodeB k o ck cn cs ac ar af ag bc br bf bg ks.length)) ∧ _
  by_cases h1 : k = 1
  · subst h1; exact impl_node1 _ _ _ _ _ _ _ _ _ _ _ _ _ hs
  by_cases h2 : k = 2
  · subst h2; exact impl_node2 _ _ _ _ _ _ _ _ _ _ _ _ _ hs
  by_cases h3 : k = 3
  · subst h3; exact impl_node3 _ _ _ _ _ _ _ _ _ _ _ _ _ hs
  by_cases h4 : k = 4
  · subst h4; exact impl_node4 _ _ _ _ _ _ _ _ _ _ _ _ _ hs
  by_cases h5 : k = 5
  · subst h5; exact impl_node5 _ _ _ _ _ _ _ _ _ _ _ _ _ hs
  by_cases h6 : k = 6
  · subst h6; exact impl_node6 _ _ _ _ _ _ _ _ _ _ _ _ _ hs hft
  · exact impl_node0 _ _ _ _ _ _ _ _ _ _ _ _ _ _ hs h1 h2 h3 h4 h5 h6

theorem spec_node (x : FN) {KA : Option Addr} {kc : Nat} (w : World) (hs : x.cs.size ≤ maxLen) :
    Calls Tryz.prog 46 #[.agg #[.int .i64 x.k, .int .i64 x.o, .int .i64 x.ck, .int .i64 x.cn, .string x.cs, .int .i64 x.ac, .int .i64 x.ar, .bool x.af, .bool x.ag, .int .i64 x.bc, .int .i64 x.br, .bool x.bf, .bool x.bg, .slice KA x.kids.length kc]] w fun e w' => e = .returned (.bool (nodeX x)) ∧ Below w.heap.size w w' := by
  obtain ⟨k, o, ck, cn, cs, ac, ar, af, ag, bc, br, bf, bg, ks⟩ := x
  show Calls _ _ _ _ fun e w' => e = .returned (.bool (nodeB k o ck cn cs ac ar af ag bc br bf bg ks.length)) ∧ _
  by_cases h1 : k = 1
  · subst h1; exact spec_node1 _ _ _ _ _ _ _ _ _ _ _ _ _ hs
  by_cases h2 : k = 2
  · subst h2; exact spec_node2 _ _ _ _ _ _ _ _ _ _ _ _ _ hs
  by_cases h3 : k = 3
  · subst h3; exact spec_node3 _ _ _ _ _ _ _ _ _ _ _ _ _ hs
  by_cases h4 : k = 4
  · subst h4; exact spec_node4 _ _ _ _ _ _ _ _ _ _ _ _ _ hs
  by_cases h5 : k = 5
  · subst h5; exact spec_node5 _ _ _ _ _ _ _ _ _ _ _ _ _ hs
  by_cases h6 : k = 6
  · subst h6; exact spec_node6 _ _ _ _ _ _ _ _ _ _ _ _ _ hs
  · exact spec_node0 _ _ _ _ _ _ _ _ _ _ _ _ _ _ hs h1 h2 h3 h4 h5 h6

set_option maxRecDepth 100000 in
set_option maxHeartbeats 8000000 in
theorem impl_FormulaOk {A : Option Addr} {n cap : Nat} {F : Nat → FN} (w : World) (h : FnRow w A n F) (hn : n ≤ 1048576) (hkn : ∀ i, i < n → (F i).kids.length ≤ 1048576) (hft : FT w) :
    Calls Tryz.prog 15 #[.slice A n cap] w fun e w' => e = .returned (.bool (fOkB F n)) ∧ Below w.heap.size w w' := by
  have HR : Hid (FnRow w A n F) := h
  have HKN : Hid (∀ i, i < n → (F i).kids.length ≤ 1048576) := hkn
  have HFT : Hid (FT w) := hft
  clear h hkn hft
  by_cases hz : n < 1
  · have HE : Hid (fOkB F n = false) := fOk_size (Or.inl hz)
    have hz' : (n : Int) < 1 := by omega
    go_enter Tryz.func15, Tryz.ntmps15
    go_wp2_with fail
    go_ret
    exact ⟨ret_bool HE.out.symm, by go_grown⟩
  have hz' : ¬ (n : Int) < 1 := by omega
  by_cases hb : 60 < n
  · have HE : Hid (fOkB F n = false) := fOk_size (Or.inr hb)
    have hb' : (60 : Int) < (n : Int) := by omega
    go_enter Tryz.func15, Tryz.ntmps15
    go_wp2_with fail
    go_ret
    exact ⟨ret_bool HE.out.symm, by go_grown⟩
  have hb' : ¬ (60 : Int) < (n : Int) := by omega
  go_enter Tryz.func15, Tryz.ntmps15
  go_wp2_with fail
  go_loopw [15] (fun i wr => ∃ k : Nat, k ≤ n ∧ i = .int .i64 k ∧ (∀ i, i < k → nodeX (F i) = true) ∧ Below w.heap.size w wr) (fun i _ => n - (intOf i).toNat)
  case atStart => exact ⟨0, Nat.zero_le _, rfl, fun i hi => by omega, Below.refl _ _⟩
  case round =>
    obtain ⟨k, hk, rfl, hal, hbel⟩ := hrel
    have HAL : Hid (∀ i, i < k → nodeX (F i) = true) := hal
    have HB : Hid (Below w.heap.size w wr) := hbel
    have HBS : Hid (w.heap.size ≤ wr.heap.size) := hbel.size
    clear hal
    by_cases hlt : k < n
    · obtain ⟨b, o, KA, kc, rfl, hl, hnd, hki, hs⟩ := HR.out.2 k hlt
      obtain ⟨c0, c1, c2, c3, c4, c5, c6, c7, c8, c9, c10, c11, c12, c13⟩ := hnd.below hl (W' := wr) hbel
      clear hnd hki hbel
      have h0 : (0 : Int) ≤ (k : Int) := by omega
      have h1 : (k : Int) < (n : Int) := by omega
      go_wp2_with fail
      refine (impl_node (F k) _ hs ((HFT.out.below HB.out).below (by go_grown))).mono ?_
      rintro e w2 ⟨rfl, hb2⟩
      have HB2 : Hid (Below w.heap.size w w2) := HB.out.trans (Below.mono (bchain (by go_grown) hb2) HBS.out)
      clear hb2
      cases hx : nodeX (F k)
      · have HE : Hid (fOkB F n = false) := fOk_node hlt hx
        go_wp2_with fail
        go_ret
        exact ⟨ret_bool HE.out.symm, HB2.out⟩
      · have HX : Hid (nodeX (F k) = true) := hx
        go_wp2_with fail
        go_roundw
        case rel => exact ⟨k + 1, by omega, by go_num, fun i hi => by
          by_cases e : i = k
          · subst e; exact HX.out
          · exact HAL.out i (by omega), HB2.out⟩
        case measure => simp [intOf]; omega
    · have h1 : ¬ (k : Int) < (n : Int) := by omega
      obtain rfl : k = n := by omega
      have HE := fOk_rest (F := F) (n := k) (by omega) (by omega) (all_yes HAL.out)
      have HE' : Hid (fOkB F k = (kidsB (fun j => (F j).kids) k && (arsB F k && !decide ((F (k - 1)).k = 3)) && deepB (fun j => (F j).kids) k)) := HE
      clear HE hbel
      go_wp2_with fail
      refine (impl_kidsInOrder _ (HR.out.below HB.out) (by omega) HKN.out).mono ?_
      rintro e w2 ⟨rfl, hb2⟩
      have HB2 : Hid (Below w.heap.size w w2) := bchain HB.out hb2
      clear hb2
      cases hx : kidsB (fun j => (F j).kids) k
      · have HX : Hid (kidsB (fun j => (F j).kids) k = false) := hx
        clear hx
        go_wp2_with fail
        go_ret
        exact ⟨ret_bool (by rw [HE'.out, HX.out]; rfl), HB2.out⟩
      have HX : Hid (kidsB (fun j => (F j).kids) k = true) := hx
      have HG : Hid (InRange (fun j => (F j).kids) k) := kidsB_range hx
      clear hx
      obtain ⟨m, hm⟩ : ∃ m, k = m + 1 := ⟨k - 1, by omega⟩
      subst hm
      go_wp2_with fail
      refine (impl_areasInCalls (n := m) _ (HR.out.below HB2.out) (by omega) HKN.out HG).mono ?_
      rintro e w3 ⟨rfl, hb2⟩
      have HB3 : Hid (Below w.heap.size w w3) := bchain HB2.out hb2
      clear hb2
      have HE2 : Hid (fOkB F (m + 1) = ((arsB F (m + 1) && !decide ((F m).k = 3)) && deepB (fun j => (F j).kids) (m + 1))) := by show _ = _; rw [HE'.out, HX.out]; rfl
      obtain ⟨y, HY⟩ : ∃ y, Hid ((arsB F (m + 1) && !decide ((F m).k = 3)) = y) := ⟨_, rfl⟩
      rw [HY.out]
      cases y
      · go_wp2_with fail
        go_ret
        exact ⟨ret_bool (by rw [HE2.out, HY.out]; rfl), HB3.out⟩
      go_wp2_with fail
      refine (impl_notTooDeep _ (HR.out.below HB3.out) (by omega) HKN.out HG).mono ?_
      rintro e w4 ⟨rfl, hb2⟩
      have HB4 : Hid (Below w.heap.size w w4) := bchain HB3.out hb2
      clear hb2
      go_wp2_with fail
      go_ret
      exact ⟨ret_bool (by rw [HE2.out, HY.out]; rfl), HB4.out⟩
end Go.Proofs.YtljbnbapmjoecaaGreatDoor
