import Derived.Test.YtfkklffdkpbibaaDoorMkB
import Derived.Test.YtfkklffdkpbibaaDoorArA
namespace Go.Proofs.YtfkklffdkpbibaaDoor
open Go.RowKit
set_option linter.unusedSimpArgs false
set_option linter.unusedVariables false

/-- The digits of a number, ahead of a text. -/
def mtGo (m : Nat) (s : ByteArray) : ByteArray := if h : m = 0 then s else mtGo (m / 10) ((⟨#[48 + UInt8.ofNat (m % 10)]⟩ : ByteArray) ++ s)
  termination_by m
  decreasing_by omega
def mtx (k : Int) : ByteArray := (⟨#[109]⟩ : ByteArray) ++ mtGo k.toNat ⟨#[]⟩
theorem mtGo_zero (s : ByteArray) : mtGo 0 s = s := by rw [mtGo]; rfl
theorem mtGo_step {m : Nat} (h : m ≠ 0) (s : ByteArray) : mtGo m s = mtGo (m / 10) ((⟨#[48 + UInt8.ofNat (m % 10)]⟩ : ByteArray) ++ s) := by
  rw [mtGo, dif_neg h]

set_option maxRecDepth 100000 in
set_option maxHeartbeats 2000000 in
theorem laws_markTextV (k : Int) (w : World) (h0 : 0 < k) (h1 : k ≤ 1099511627776000) : Calls Tryd.prog 39 #[.int .i64 k] w fun e w' => e = .returned (.string (mtx k)) ∧ Below w.heap.size w w' := by
  have hz : ¬ k ≤ 0 := by omega
  go_enter Tryd.func39, Tryd.ntmps39
  go_wp2_with fail
  go_loopw [0, 3] (fun q o wr => ∃ (m : Nat) (s : ByteArray), q = .int .i64 m ∧ o = .string s ∧ (s.size : Int) + m ≤ k ∧ mtGo m s = mtGo k.toNat ⟨#[]⟩ ∧ Below w.heap.size w wr) (fun q _ _ => (intOf q).toNat)
  case atStart => exact ⟨k.toNat, ⟨#[]⟩, by congr 1; omega, rfl, by show (0 : Int) + _ ≤ _; omega, rfl, Below.refl _ _⟩
  case round =>
    obtain ⟨m, s, rfl, rfl, hsm, hgo, hbel⟩ := hrel
    have HG : Hid (mtGo m s = mtGo k.toNat ⟨#[]⟩) := hgo
    clear hgo
    have hcv := @conv1
    by_cases hm : (m : Int) ≤ 0
    · have hs1 : ¬ 9223372036854775807 < 1 + s.size := by omega
      have hm0 : m = 0 := by omega
      have HF : Hid ((⟨#[109]⟩ : ByteArray) ++ s = mtx k) := by
        show _ = _
        rw [mtx, ← HG.out, hm0, mtGo_zero]
      clear hm0
      go_wp2_with fail
      go_ret
      exact ⟨by rw [← HF.out]; rfl, hbel⟩
    · have hp : 0 < (m : Int) := by omega
      have hs1 : ¬ 9223372036854775807 < 1 + s.size := by omega
      have hm0 : m ≠ 0 := by omega
      have HS := HG.out
      rw [mtGo_step hm0] at HS
      have HT : Hid (mtGo (m / 10) ((⟨#[48 + UInt8.ofNat (m % 10)]⟩ : ByteArray) ++ s) = mtGo k.toNat ⟨#[]⟩) := HS
      clear HS HG hm0
      go_wp2_with fail
      all_goals
        go_roundw
        case rel => exact ⟨m / 10, _, by congr 1, rfl, by rw [ByteArray.size_append]; show ((1 + s.size : Nat) : Int) + ((m / 10 : Nat) : Int) ≤ k; omega, HT.out, by have hbs := hbel.size; go_grown⟩
        case measure => simp [intOf]; omega

/-- What is marked in a row of numbers. -/
theorem mark_one {W : World} {B g n cap t : Nat} {ys : List Value} {k : Int} (h : W.ownsRow B 2 1 (.slice (some ⟨g, 0, none⟩) n cap) n ys) (ht : t < n) (hy : Marked ys k t) :
    ∃ zs, (W.setCell ⟨g, t, none⟩ (.int .i64 (k + (t : Int)))).ownsRow B 2 1 (.slice (some ⟨g, 0, none⟩) n cap) n zs ∧ Marked zs k (t + 1) ∧ W.grownBy (W.setCell ⟨g, t, none⟩ (.int .i64 (k + (t : Int)))) (some g) := by
  have hl := h.1
  refine ⟨_, (h.stored t (.int .i64 (k + (t : Int)))).1, fun j hj => ?_, (h.stored t (.int .i64 (k + (t : Int)))).2⟩
  by_cases e : j = t
  · subst e; rw [List.getElem?_set_self (by omega)]
  · rw [List.getElem?_set_ne (by omega)]; exact hy j (by omega)

set_option maxHeartbeats 2000000 in
theorem laws_markInt64SV {B n : Nat} {v : Value} {xs : List Value} (k : Int) (w : World) (h : w.ownsRow B 2 1 v n xs) (hn : n ≤ 1048576) (h0 : 0 ≤ k) (h1 : k ≤ 1099511627776000) :
    Calls Tryd.prog 40 #[v, .int .i64 k] w fun e w' => e = .returned (.int .i64 (k + (n : Int))) ∧ (∃ ys, w'.ownsRow B 2 1 v n ys ∧ Marked ys k n) ∧ w.grownBy w' v.ownBlock := by
  have HO : Hid (w.ownsRow B 2 1 v n xs) := h
  obtain ⟨A, cap, rfl, _, _⟩ := own_shape h
  clear h
  go_enter Tryd.func40, Tryd.ntmps40
  go_wp2_with fail
  go_loopw [1, 5] (fun q i wr => ∃ t : Nat, t ≤ n ∧ i = .int .i64 t ∧ q = .int .i64 (k + (t : Int)) ∧ (∃ ys, wr.ownsRow B 2 1 (.slice A n cap) n ys ∧ Marked ys k t) ∧ w.grownBy wr (Value.slice A n cap).ownBlock) (fun _ i _ => n - (intOf i).toNat)
  case atStart => exact ⟨0, Nat.zero_le _, rfl, by simp, ⟨xs, HO.out, fun j hj => by omega⟩, World.grownBy.refl _ _⟩
  case round =>
    clear HO
    obtain ⟨t, ht, rfl, rfl, ⟨ys, hown, hys⟩, hgr⟩ := hrel
    by_cases hlt : t < n
    · obtain ⟨A', cap', e, _, hc⟩ := own_shape hown
      cases e
      have hl := hown.1
      obtain ⟨g, rfl, _, hg, d0, f0⟩ := hc t (by omega)
      obtain ⟨z, hz⟩ : ∃ z, ys[t]? = some z := ⟨_, List.getElem?_eq_getElem (by omega)⟩
      rw [hz] at d0
      clear hz hc hl
      have HT : Hid (∃ zs, (wr.setCell ⟨g, t, none⟩ (.int .i64 (k + (t : Int)))).ownsRow B 2 1 (.slice (some ⟨g, 0, none⟩) n cap) n zs ∧ Marked zs k (t + 1) ∧ wr.grownBy (wr.setCell ⟨g, t, none⟩ (.int .i64 (k + (t : Int)))) (some g)) := mark_one hown hlt hys
      have HG : Hid (w.grownBy wr (some g)) := hgr
      clear hgr hown hys
      have q0 : (0 : Int) ≤ (t : Int) := by omega
      have q1 : (t : Int) < (n : Int) := by omega
      go_wp2_with fail
      all_goals
        go_roundw
        case rel =>
          obtain ⟨zs, z1, z2, z3⟩ := HT.out
          exact ⟨t + 1, by omega, by simp, by first | rfl | (congr 1; omega), ⟨zs, z1, z2⟩, grown_trans HG.out z3⟩
        case measure => simp [intOf]; omega
    · have h1 : ¬ (t : Int) < (n : Int) := by omega
      obtain rfl : t = n := by omega
      go_wp2_with fail
      go_ret
      exact ⟨rfl, ⟨ys, hown, hys⟩, hgr⟩

set_option maxHeartbeats 2000000 in
theorem laws_heldInt64SV {B n : Nat} {v : Value} {ys : List Value} (k : Int) (w : World) (h : w.ownsRow B 2 1 v n ys) (hy : Marked ys k n) (hn : n ≤ 1048576) (h0 : 0 ≤ k) (h1 : k ≤ 1099511627776000) :
    Calls Tryd.prog 47 #[v, .int .i64 k] w fun e w' => e = .returned (.int .i64 (k + (n : Int))) ∧ Below w.heap.size w w' := by
  obtain ⟨A, cap, rfl, _, hc⟩ := own_shape h
  have HC : Hid (∀ t, t < n → ∃ g, A = some ⟨g, 0, none⟩ ∧ g < w.heap.size ∧ w.cell? ⟨g, t, none⟩ = some (.int .i64 (k + (t : Int)))) := by
    intro t ht
    obtain ⟨g, rfl, _, hg, c0, _⟩ := hc t (by omega)
    exact ⟨g, rfl, hg, c0.trans (hy _ ht)⟩
  clear hc h hy
  go_enter Tryd.func47, Tryd.ntmps47
  go_wp2_with fail
  go_loopw [1, 5] (fun q i wr => ∃ t : Nat, t ≤ n ∧ i = .int .i64 t ∧ q = .int .i64 (k + (t : Int)) ∧ Below w.heap.size w wr) (fun _ i _ => n - (intOf i).toNat)
  case atStart => exact ⟨0, Nat.zero_le _, rfl, by simp, Below.refl _ _⟩
  case round =>
    obtain ⟨t, ht, rfl, rfl, hbel⟩ := hrel
    by_cases hlt : t < n
    · obtain ⟨g, rfl, hg, c0⟩ := HC.out t hlt
      rw [← hbel.cell (p := ⟨_, _, none⟩) hg] at c0
      have q0 : (0 : Int) ≤ (t : Int) := by omega
      have q1 : (t : Int) < (n : Int) := by omega
      go_wp2_with fail
      all_goals
        go_roundw
        case rel => exact ⟨t + 1, by omega, by simp, by congr 1; omega, by go_grown⟩
        case measure => simp [intOf]; omega
    · have h1 : ¬ (t : Int) < (n : Int) := by omega
      obtain rfl : t = n := by omega
      go_wp2_with fail
      go_ret
      exact ⟨rfl, hbel⟩
end Go.Proofs.YtfkklffdkpbibaaDoor
