import Derived.Test.YtjkioadjclfmiaaDoorOwn
import Derived.Test.YtjkioadjclfmiaaDoorStrs
import Derived.Deep.RegionHeld3
import Derived.Deep.AppendLies
import Derived.Deep.QuietTactic
import Derived.BigQuiet
import Derived.Laws.BytesString
namespace Go.Proofs.YtjkioadjclfmiaaDoor
open Go.RowKit
set_option linter.unusedSimpArgs false
set_option linter.unusedVariables false

theorem conv0 (W : World) (b : Nat) (v : Int) (hv : W.cell? ⟨b, 0, none⟩ = some (.int .u8 v)) :
    (convert 22 9 (.slice (some ⟨b, 0, none⟩) 1 1)).run Tryd.prog W = .ok (.string ⟨#[UInt8.ofNat v.toNat]⟩) W := by
  rw [run_convert_bytes_string W 22 9 5 (some ⟨b, 0, none⟩) 1 1 Tryd.underlying22 Tryd.underlying5 Tryd.underlying9]
  have hl := run_loadCells_list (P := Tryd.prog) W ⟨b, 0, none⟩ [.int .u8 v] (fun j x hj => by
    match j, hj with
    | 0, hj => simp at hj; simpa [Addr.add, ← hj] using hv)
  rw [run_bytesToString W ⟨b, 0, none⟩ 1 1 [v] (by simpa using hl)]
  rfl

theorem conv1 (W : World) (v : Int) : (convert 22 9 (.slice (some ⟨W.heap.size, 0, none⟩) 1 1)).run Tryd.prog (W.alloc (.cells #[.int .u8 v] 5)) =
    .ok (.string ⟨#[UInt8.ofNat v.toNat]⟩) (W.alloc (.cells #[.int .u8 v] 5)) := conv0 _ _ v (by simp)

/-- The digits of a number, ahead of a text. -/
def mtGo (m : Nat) (s : ByteArray) : ByteArray := if h : m = 0 then s else mtGo (m / 10) ((⟨#[48 + UInt8.ofNat (m % 10)]⟩ : ByteArray) ++ s)
  termination_by m
  decreasing_by omega

def mtx (k : Int) : ByteArray := (⟨#[109]⟩ : ByteArray) ++ mtGo k.toNat ⟨#[]⟩

theorem mtGo_zero (s : ByteArray) : mtGo 0 s = s := by rw [mtGo]; rfl

theorem mtGo_step {m : Nat} (h : m ≠ 0) (s : ByteArray) : mtGo m s = mtGo (m / 10) ((⟨#[48 + UInt8.ofNat (m % 10)]⟩ : ByteArray) ++ s) := by
  rw [mtGo, dif_neg h]

set_option maxRecDepth 100000 in
set_option maxHeartbeats 2000000 in
theorem laws_markTextV (k : Int) (w : World) (h0 : 0 < k) (h1 : k ≤ 1099511627776000) : Calls Tryd.prog 27 #[.int .i64 k] w fun e w' => e = .returned (.string (mtx k)) ∧ Below w.heap.size w w' := by
  have hz : ¬ k ≤ 0 := by omega
  go_enter Tryd.func27, Tryd.ntmps27
  go_wp2_with fail
  go_loopw [0, 3] (fun q o wr => ∃ (m : Nat) (s : ByteArray), q = .int .i64 m ∧ o = .string s ∧ (s.size : Int) + m ≤ k ∧ mtGo m s = mtGo k.toNat ⟨#[]⟩ ∧ Below w.heap.size w wr) (fun q _ _ => (intOf q).toNat)
  case atStart => exact ⟨k.toNat, ⟨#[]⟩, by congr 1; omega, rfl, by show (0 : Int) + _ ≤ _; omega, rfl, Below.refl _ _⟩
  case round =>
    obtain ⟨m, s, rfl, rfl, hsm, hgo, hbel⟩ := hrel
    have HG : Hid (mtGo m s = mtGo k.toNat ⟨#[]⟩) := hgo
    clear hgo
    have hcv := @conv1
    by_cases hm : (m : Int) ≤ 0
    · have hs1 : ¬ 9223372036854775807 < 1 + s.size := by omega
      have hm0 : m = 0 := by omega
      have HF : Hid ((⟨#[109]⟩ : ByteArray) ++ s = mtx k) := by
        show _ = _
        rw [mtx, ← HG.out, hm0, mtGo_zero]
      clear hm0
      go_wp2_with fail
      go_ret
      exact ⟨by rw [← HF.out]; rfl, hbel⟩
    · have hp : 0 < (m : Int) := by omega
      have hs1 : ¬ 9223372036854775807 < 1 + s.size := by omega
      have hm0 : m ≠ 0 := by omega
      have HS := HG.out
      rw [mtGo_step hm0] at HS
      have HT : Hid (mtGo (m / 10) ((⟨#[48 + UInt8.ofNat (m % 10)]⟩ : ByteArray) ++ s) = mtGo k.toNat ⟨#[]⟩) := HS
      clear HS HG hm0
      go_wp2_with fail
      all_goals
        go_roundw
        case rel => exact ⟨m / 10, _, by congr 1, rfl, by rw [ByteArray.size_append]; show ((1 + s.size : Nat) : Int) + ((m / 10 : Nat) : Int) ≤ k; omega, HT.out, by have hbs := hbel.size; go_grown⟩
        case measure => simp [intOf]; omega

theorem own_ne {W W' : World} {B B' : Nat} {e e' : TypeId} {s s' n n' : Nat} {v v' : Value} {xs xs' : List Value} (h : W.ownsRow B e s v n xs) (h' : W'.ownsRow B' e' s' v' n' xs') (hb : W.heap.size ≤ B') : v.ownBlock = none ∨ v.ownBlock ≠ v'.ownBlock := by
  cases hv : v.ownBlock with
  | none => exact Or.inl rfl
  | some g =>
    right
    intro e
    have h1 := (h.lt g hv).2
    have h2 := (h'.lt g e.symm).1
    omega

theorem own_ne' {W W' : World} {B B' : Nat} {e e' : TypeId} {s s' n n' : Nat} {v v' : Value} {xs xs' : List Value} (h : W.ownsRow B e s v n xs) (h' : W'.ownsRow B' e' s' v' n' xs') (hb : W'.heap.size ≤ B) : v.ownBlock = none ∨ v.ownBlock ≠ v'.ownBlock := by
  cases hv : v.ownBlock with
  | none => exact Or.inl rfl
  | some g =>
    right
    intro e
    have h1 := (h.lt g hv).1
    have h2 := (h'.lt g e.symm).2
    omega

theorem mtGo_size (m : Nat) : ∀ s : ByteArray, (mtGo m s).size ≤ s.size + m := by
  induction m using Nat.strongRecOn with
  | ind m ih =>
    intro s
    by_cases h : m = 0
    · subst h; rw [mtGo_zero]; omega
    · rw [mtGo_step h]
      have h1 := ih (m / 10) (by omega) ((⟨#[48 + UInt8.ofNat (m % 10)]⟩ : ByteArray) ++ s)
      rw [ByteArray.size_append] at h1
      have h2 : (⟨#[48 + UInt8.ofNat (m % 10)]⟩ : ByteArray).size = 1 := rfl
      omega

theorem mtx_size {k : Int} (h : k ≤ 1099511627776000) : (mtx k).size ≤ maxLen := by
  unfold mtx
  rw [ByteArray.size_append]
  have h1 := mtGo_size k.toNat ⟨#[]⟩
  have h2 : (⟨#[109]⟩ : ByteArray).size = 1 := rfl
  have h3 : (⟨#[]⟩ : ByteArray).size = 0 := rfl
  unfold maxLen
  omega


/-- A row of texts. -/
def SRow (W : World) (A : Option Addr) (xs : List ByteArray) : Prop :=
  xs.length ≤ maxLen ∧ ∀ i (h : i < xs.length), ∃ b o, A = some ⟨b, o, none⟩ ∧ b < W.heap.size ∧ W.cell? ⟨b, o + i, none⟩ = some (.string xs[i])
theorem SRow.below {W W' : World} {A : Option Addr} {xs : List ByteArray} (h : SRow W A xs) (hb : Below W.heap.size W W') : SRow W' A xs :=
  ⟨h.1, fun i hi => by
    obtain ⟨b, o, e, hl, hc⟩ := h.2 i hi
    exact ⟨b, o, e, Nat.lt_of_lt_of_le hl hb.size, (hb.cell (p := ⟨b, _, none⟩) hl).trans hc⟩⟩
theorem srow_own {W : World} {B n : Nat} {A : Option Addr} {cap : Nat} {xs : List ByteArray} (h : W.ownsRow B 9 1 (.slice A n cap) n (xs.map Value.string)) : SRow W A xs ∧ n = xs.length := by
  have hl := h.1
  rw [List.length_map, Nat.mul_one] at hl
  obtain ⟨A', cap', e, hm, hc⟩ := own_shape h
  cases e
  refine ⟨⟨by omega, fun i hi => ?_⟩, hl.symm⟩
  obtain ⟨g, e, _, hlt, hcell, _⟩ := hc i (by omega)
  refine ⟨g, 0, e, hlt, ?_⟩
  rw [Nat.zero_add, hcell, List.getElem?_map, List.getElem?_eq_getElem hi]
  rfl
theorem SRow.take {W : World} {A : Option Addr} {xs : List ByteArray} (h : SRow W A xs) (k : Nat) : SRow W A (xs.take k) :=
  ⟨by rw [List.length_take]; have := h.1; omega, fun i hi => by
    have hi' := hi
    rw [List.length_take] at hi'
    obtain ⟨b, o, e, hl, hc⟩ := h.2 i (by omega)
    exact ⟨b, o, e, hl, by rw [hc, List.getElem_take]⟩⟩
theorem str_selfS (s : ByteArray) : (s.toList == s.toList) = true := by simp

theorem bdrewN {n : Nat} {w W : World} (h : Below n w W) (k : Nat) : Below n w (W.drewN k) := by
  induction k with
  | zero => exact h
  | succ k ih => first | exact ih.drew | (rw [World.drewN_succ]; exact ih.drew)
set_option maxHeartbeats 1000000 in
theorem laws_eqStringS {A A' : Option Addr} {n cap cap' : Nat} {xs : List ByteArray} (w : World) (h : SRow w A xs) (h' : SRow w A' xs) (hn : n = xs.length) :
    Calls Tryd.prog 14 #[.slice A n cap, .slice A' n cap'] w fun e w' => e = .returned (.bool true) ∧ Below w.heap.size w w' := by
  have HR : Hid (SRow w A xs) := h
  have HR' : Hid (SRow w A' xs) := h'
  have hm := h.1
  unfold maxLen at hm
  clear h h'
  go_enter Tryd.func14, Tryd.ntmps14
  go_wp2_with fail
  go_loopw [5] (fun i wr => ∃ t : Nat, t ≤ n ∧ i = .int .i64 t ∧ Below w.heap.size w wr) (fun i _ => n - (intOf i).toNat)
  case atStart => exact ⟨0, Nat.zero_le _, rfl, by go_grown⟩
  case round =>
    obtain ⟨t, ht, rfl, hbel⟩ := hrel
    by_cases hlt : t < n
    · obtain ⟨b, o, rfl, hl, c0⟩ := HR.out.2 t (by omega)
      obtain ⟨b', o', rfl, hl', c1⟩ := HR'.out.2 t (by omega)
      rw [← hbel.cell (p := ⟨_, _, none⟩) hl] at c0
      rw [← hbel.cell (p := ⟨_, _, none⟩) hl'] at c1
      obtain ⟨x, HX⟩ : ∃ x : ByteArray, Hid (xs[t]'(by omega) = x) := ⟨xs[t]'(by omega), (rfl : xs[t]'(by omega) = _)⟩
      rw [HX.out] at c0 c1
      have e1 := str_selfS x
      have q0 : (0 : Int) ≤ (t : Int) := by omega
      have q1 : (t : Int) < (n : Int) := by omega
      have HB : Hid (Below w.heap.size w wr) := hbel
      clear hbel
      go_wp2_with fail
      go_quiet (fail)
      go_wp2_with fail
      go_roundw
      case rel => exact ⟨t + 1, by omega, by go_num, bdrewN HB.out _⟩
      case measure => simp [intOf]; omega
    · have q1 : ¬ (t : Int) < (n : Int) := by omega
      go_wp2_with fail
      go_ret
      exact ⟨rfl, hbel⟩


/-- The marks of a row of texts. -/
def mkS (n : Nat) : List ByteArray := (List.range n).map fun (i : Nat) => mtx (1 + (i : Int))
theorem mkS_len (n : Nat) : (mkS n).length = n := by simp [mkS]
theorem mkS_at {n j : Nat} (h : j < n) : ((mkS n).map Value.string)[j]? = some (.string (mtx (1 + (j : Int)))) := by simp [mkS, h]
theorem mkS_get {n j : Nat} (h : j < (mkS n).length) : (mkS n)[j] = mtx (1 + (j : Int)) := by simp [mkS]
theorem rowsS_eq {n : Nat} {ys : List Value} (hl : ys.length = n * 1) (hy : ∀ j, j < n → ys[j]? = ((mkS n).map Value.string)[j]?) : ys = (mkS n).map Value.string := by
  apply List.ext_getElem?
  intro i
  by_cases h : i < n
  · exact hy i h
  · rw [List.getElem?_eq_none (by omega), List.getElem?_eq_none (by simp [mkS]; omega)]

set_option maxHeartbeats 2000000 in
theorem laws_markStringS {B n : Nat} {v : Value} {xs : List Value} (w : World) (h : w.ownsRow B 9 1 v n xs) (hn : n ≤ 1048576) :
    Calls Tryd.prog 15 #[v, .int .i64 1] w fun e w' => e = .returned (.int .i64 (1 + (n : Int))) ∧ w'.ownsRow B 9 1 v n ((mkS n).map Value.string) ∧ w.grownBy w' v.ownBlock := by
  have HO : Hid (w.ownsRow B 9 1 v n xs) := h
  obtain ⟨A, cap, rfl, _, _⟩ := own_shape h
  clear h
  go_enter Tryd.func15, Tryd.ntmps15
  go_wp2_with fail
  go_loopw [1, 5] (fun q i wr => ∃ t : Nat, t ≤ n ∧ i = .int .i64 t ∧ q = .int .i64 (1 + (t : Int)) ∧ (∃ ys, wr.ownsRow B 9 1 (.slice A n cap) n ys ∧ ∀ j, j < t → ys[j]? = ((mkS n).map Value.string)[j]?) ∧ w.grownBy wr (Value.slice A n cap).ownBlock) (fun _ i _ => n - (intOf i).toNat)
  case atStart => exact ⟨0, Nat.zero_le _, rfl, by simp, ⟨xs, HO.out, fun j hj => by omega⟩, World.grownBy.refl _ _⟩
  case round =>
    clear HO
    obtain ⟨t, ht, rfl, rfl, ⟨ys, hown, hys⟩, hgr⟩ := hrel
    by_cases hlt : t < n
    · obtain ⟨k, HK⟩ : ∃ k : Int, Hid (1 + (t : Int) = k) := ⟨_, rfl⟩
      have hk0 : 0 < k := by have := HK.out; omega
      have hk1 : k ≤ 5000000 := by have := HK.out; omega
      rw [HK.out]
      have HA : Hid (∃ ys, wr.ownsRow B 9 1 (.slice A n cap) n ys ∧ (∀ j, j < t → ys[j]? = ((mkS n).map Value.string)[j]?) ∧ w.grownBy wr (Value.slice A n cap).ownBlock) := ⟨ys, hown, hys, hgr⟩
      have q0 : (0 : Int) ≤ (t : Int) := by omega
      have q1 : (t : Int) < (n : Int) := by omega
      have HX : Hid (((mkS n).map Value.string)[t]? = some (.string (mtx k))) := by show _ = _; rw [mkS_at hlt, HK.out]
      clear hown hys hgr
      go_wp2_with fail
      refine (laws_markTextV _ _ (by omega) (by omega)).mono ?_
      rintro e w2 ⟨rfl, hb⟩
      obtain ⟨zs, o0, p1, g0⟩ := HA.out
      have o1 := own_below o0 hb
      have g1 := grown_trans g0 ⟨hb.os, hb.tape, hb.output, hb.size, fun q hq _ => hb.block q hq⟩
      clear hb HA o0 g0
      obtain ⟨A', cap', e, _, hc⟩ := own_shape o1
      cases e
      obtain ⟨g, rfl, _, _, d2, f2⟩ := hc t (by omega)
      clear hc
      have hl := o1.1
      obtain ⟨x2, y2⟩ : ∃ x, zs[t]? = some x := ⟨_, List.getElem?_eq_getElem (by omega)⟩
      rw [y2] at d2
      clear y2 hl
      have HA3 : Hid (∃ ys, (w2.setCell ⟨g, t, none⟩ (.string (mtx k))).ownsRow B 9 1 (.slice (some ⟨g, 0, none⟩) n cap) n ys ∧ (∀ j, j < t + 1 → ys[j]? = ((mkS n).map Value.string)[j]?) ∧
          w.grownBy (w2.setCell ⟨g, t, none⟩ (.string (mtx k))) (some g)) := by
        obtain ⟨o3, g3⟩ := o1.stored t (.string (mtx k))
        refine ⟨_, o3, fun j hj => ?_, grown_trans g1 g3⟩
        by_cases e : t = j
        · subst e; rw [List.getElem?_set_self (by have := o1.1; omega), HX.out]
        · rw [List.getElem?_set_ne e]; exact p1 j (by omega)
      clear o1 p1 g1
      go_wp2_with fail
      all_goals
        go_roundw
        case rel =>
          obtain ⟨z, o1, p1, g1⟩ := HA3.out
          exact ⟨t + 1, by omega, by simp, by have := HK.out; congr 1; omega, ⟨z, o1, p1⟩, g1⟩
        case measure => simp [intOf]; omega
    · have h1 : ¬ (t : Int) < (n : Int) := by omega
      obtain rfl : t = n := by omega
      go_wp2_with fail
      go_ret
      exact ⟨rfl, by rw [rowsS_eq hown.1 hys] at hown; exact hown, hgr⟩

set_option maxHeartbeats 2000000 in
theorem laws_heldStringS {A : Option Addr} {n cap : Nat} (w : World) (h : SRow w A (mkS n)) (hn : n ≤ 1048576) :
    Calls Tryd.prog 16 #[.slice A n cap, .int .i64 1] w fun e w' => e = .returned (.int .i64 (1 + (n : Int))) ∧ Below w.heap.size w w' := by
  have HR : Hid (SRow w A (mkS n)) := h
  clear h
  go_enter Tryd.func16, Tryd.ntmps16
  go_wp2_with fail
  go_loopw [1, 5] (fun q i wr => ∃ t : Nat, t ≤ n ∧ i = .int .i64 t ∧ q = .int .i64 (1 + (t : Int)) ∧ Below w.heap.size w wr) (fun _ i _ => n - (intOf i).toNat)
  case atStart => exact ⟨0, Nat.zero_le _, rfl, by simp, Below.refl _ _⟩
  case round =>
    obtain ⟨t, ht, rfl, rfl, hbel⟩ := hrel
    by_cases hlt : t < n
    · obtain ⟨k, HK⟩ : ∃ k : Int, Hid (1 + (t : Int) = k) := ⟨_, rfl⟩
      have hk0 : 0 < k := by have := HK.out; omega
      have hk1 : k ≤ 5000000 := by have := HK.out; omega
      rw [HK.out]
      have hlt' : t < (mkS n).length := by rw [mkS_len]; exact hlt
      obtain ⟨b, o, rfl, hl, c0⟩ := HR.out.2 t hlt'
      rw [mkS_get hlt', HK.out] at c0
      have hlw := hbel.size
      have hl2 : b < wr.heap.size := Nat.lt_of_lt_of_le hl hlw
      rw [← hbel.cell (p := ⟨_, _, none⟩) hl] at c0
      have q0 : (0 : Int) ≤ (t : Int) := by omega
      have q1 : (t : Int) < (n : Int) := by omega
      have e1 := str_selfS (mtx k)
      have HB : Hid (Below w.heap.size w wr) := hbel
      clear hbel hlt'
      go_wp2_with fail
      go_region_held3 (fun w' => (∀ bq oq, bq < wr.heap.size → w'.cell? ⟨bq, oq, none⟩ = wr.cell? ⟨bq, oq, none⟩) ∧ wr.heap.size ≤ w'.heap.size ∧ Below wr.heap.size wr w')
        (exact sc_of (Nat.le_refl _) (by go_grown))
        (first
        | (go_at_call 27; refine (laws_markTextV _ _ (by omega) (by omega)).mono ?_; rintro e w1 ⟨rfl, hb⟩; obtain ⟨hk1, hz1⟩ := bframe (B := wr.heap.size) (X := wr) (by go_grown) (by go_size) hb; have hW1 : ∀ b o, b < wr.heap.size → w1.cell? ⟨b, o, none⟩ = wr.cell? ⟨b, o, none⟩ := (fun b o h => hk1.cell (p := ⟨b, o, none⟩) h); clear hb))
      all_goals go_wp2_with fail
      all_goals
        go_roundw
        case rel => exact ⟨t + 1, by omega, by simp, by have := HK.out; congr 1; omega, bchain HB.out (by go_grown)⟩
        case measure => simp [intOf]; omega
    · have h1 : ¬ (t : Int) < (n : Int) := by omega
      obtain rfl : t = n := by omega
      go_wp2_with fail
      go_ret
      exact ⟨rfl, hbel⟩
end Go.Proofs.YtjkioadjclfmiaaDoor
