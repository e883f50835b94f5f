import Derived.Test.YtfkklffdkpbibaaDoorMkA
namespace Go.Proofs.YtfkklffdkpbibaaDoor
open Go.RowKit
set_option linter.unusedSimpArgs false
set_option linter.unusedVariables false

def KRow (W : World) (g B1 : Nat) (KA : Option Addr) (m kc : Nat) : Prop := (∃ zs, W.ownsRow (g + 1) 2 1 (.slice KA m kc) m zs) ∧ ∀ b, (Value.slice KA m kc).ownBlock = some b → b < B1
def Mk (w : World) (g B1 n : Nat) (F : Nat → FN) (W : World) : Prop :=
  Mid g B1 w W ∧ ∃ ys, W.ownsRow g 53 14 (.slice (some ⟨g, 0, none⟩) n n) n ys ∧ ∀ i, i < n → ∃ KA kc, ys[i * 14 + 13]? = some (.slice KA (F i).kids.length kc) ∧ KRow W g B1 KA (F i).kids.length kc
theorem KRow.setG {W : World} {g B1 : Nat} {KA : Option Addr} {m kc : Nat} (h : KRow W g B1 KA m kc) (p : Nat) (u : Value) : KRow (W.setCell ⟨g, p, none⟩ u) g B1 KA m kc := by
  obtain ⟨⟨zs, h1⟩, h2⟩ := h
  exact ⟨⟨zs, ownsRow_setCell_below h1 (Nat.lt_succ_self g) u⟩, h2⟩
theorem KRow.setK {W : World} {g B1 : Nat} {KA : Option Addr} {m kc : Nat} (h : KRow W g B1 KA m kc) (b p : Nat) (u : Value) : KRow (W.setCell ⟨b, p, none⟩ u) g B1 KA m kc := by
  obtain ⟨⟨zs, h1⟩, h2⟩ := h
  refine ⟨?_, h2⟩
  by_cases e : (Value.slice KA m kc).ownBlock = some b
  · rcases h1.2 with ⟨e1, e2⟩ | ⟨g', cap', cur, e1, _⟩
    · rw [e1] at e; cases e
    · cases e1
      cases e
      exact ⟨_, (h1.stored p u).1⟩
  · exact ⟨zs, ownsRow_setCell_other h1 e u⟩
theorem KRow.below {W W' : World} {g B1 : Nat} {KA : Option Addr} {m kc : Nat} (h : KRow W g B1 KA m kc) (hb : Below W.heap.size W W') : KRow W' g B1 KA m kc := by
  obtain ⟨⟨zs, h1⟩, h2⟩ := h
  exact ⟨⟨zs, own_below h1 hb⟩, h2⟩
theorem Mk.below {w W W' : World} {g B1 n : Nat} {F : Nat → FN} (h : Mk w g B1 n F W) (hb : Below W.heap.size W W') : Mk w g B1 n F W' := by
  obtain ⟨h1, ys, h2, h3⟩ := h
  refine ⟨h1.below hb, ys, own_below h2 hb, fun i hi => ?_⟩
  obtain ⟨KA, kc, e1, e2⟩ := h3 i hi
  exact ⟨KA, kc, e1, e2.below hb⟩
theorem Mk.setG {w W : World} {g B1 n : Nat} {F : Nat → FN} (t q : Nat) (u : Value) (hq : q < 13) (hg : g < B1) (h : Mk w g B1 n F W) : Mk w g B1 n F (W.setCell ⟨g, t * 14 + q, none⟩ u) := by
  obtain ⟨h1, ys, h2, h3⟩ := h
  refine ⟨h1.set u (Nat.le_refl _) hg, _, (h2.stored (t * 14 + q) u).1, fun i hi => ?_⟩
  obtain ⟨KA, kc, e1, e2⟩ := h3 i hi
  exact ⟨KA, kc, by rw [List.getElem?_set_ne (by omega)]; exact e1, e2.setG _ _⟩
theorem Mk.setK {w W : World} {g B1 n : Nat} {F : Nat → FN} (b p : Nat) (u : Value) (hb : g < b) (hb1 : b < B1) (h : Mk w g B1 n F W) : Mk w g B1 n F (W.setCell ⟨b, p, none⟩ u) := by
  obtain ⟨h1, ys, h2, h3⟩ := h
  refine ⟨h1.set u (by show g ≤ b; omega) hb1, ys, ownsRow_setCell_other h2 (fun e => by cases e; omega) u, fun i hi => ?_⟩
  obtain ⟨KA, kc, e1, e2⟩ := h3 i hi
  exact ⟨KA, kc, e1, e2.setK _ _ _⟩
theorem Mk.cells {w W : World} {g B1 n : Nat} {F : Nat → FN} (h : Mk w g B1 n F W) (t : Nat) (ht : t < n) : (∀ j, j < 13 → ∃ x, W.cell? ⟨g, t * 14 + j, none⟩ = some x ∧ W.frozen? ⟨g, t * 14 + j, none⟩ = false) ∧
    ∃ KA kc, W.cell? ⟨g, t * 14 + 13, none⟩ = some (.slice KA (F t).kids.length kc) ∧ KRow W g B1 KA (F t).kids.length kc := by
  obtain ⟨_, ys, h2, h3⟩ := h
  obtain ⟨A', cap', e, _, hc⟩ := own_shape h2
  cases e
  have hl := h2.1
  constructor
  · intro j hj
    obtain ⟨g', e', _, _, d, f⟩ := hc (t * 14 + j) (by omega)
    cases e'
    exact ⟨_, d.trans (List.getElem?_eq_getElem (by omega)), f⟩
  · obtain ⟨KA, kc, e1, e2⟩ := h3 t ht
    obtain ⟨g', e', _, _, d, f⟩ := hc (t * 14 + 13) (by omega)
    cases e'
    exact ⟨KA, kc, d.trans e1, e2⟩

set_option maxHeartbeats 2000000 in
theorem laws_markInt64S {w0 w : World} {g B1 n m kc : Nat} {F : Nat → FN} {KA : Option Addr} (k : Int) (h : Mk w0 g B1 n F w) (hr : KRow w g B1 KA m kc) (hm : m ≤ 1048576) (h0 : 0 ≤ k) (h1 : k ≤ 1099511627776000) :
    Calls Tryd.prog 40 #[.slice KA m kc, .int .i64 k] w fun e w' => e = .returned (.int .i64 (k + m)) ∧ Mk w0 g B1 n F w' := by
  have HM : Hid (Mk w0 g B1 n F w) := h
  have HR : Hid (KRow w g B1 KA m kc) := hr
  clear h hr
  go_enter Tryd.func40, Tryd.ntmps40
  go_wp2_with fail
  go_loopw [1, 5] (fun q i wr => ∃ t : Nat, t ≤ m ∧ i = .int .i64 t ∧ q = .int .i64 (k + (t : Int)) ∧ Mk w0 g B1 n F wr ∧ KRow wr g B1 KA m kc) (fun _ i _ => m - (intOf i).toNat)
  case atStart => exact ⟨0, Nat.zero_le _, rfl, by simp, HM.out, HR.out⟩
  case round =>
    clear HM HR
    obtain ⟨t, ht, rfl, rfl, hM, hR⟩ := hrel
    have HM : Hid (Mk w0 g B1 n F wr) := hM
    have HR : Hid (KRow wr g B1 KA m kc) := hR
    clear hM
    by_cases hlt : t < m
    · obtain ⟨⟨zs, ho⟩, hbd⟩ := hR
      have hl := ho.1
      obtain ⟨A', cap', e, _, hc⟩ := own_shape ho
      cases e
      obtain ⟨b, rfl, hgb, hb, d0, f0⟩ := hc t (by omega)
      obtain ⟨z, hz⟩ : ∃ z, zs[t]? = some z := ⟨_, List.getElem?_eq_getElem (by omega)⟩
      rw [hz] at d0
      clear hz
      have HBD : Hid (g < b ∧ b < B1) := ⟨by omega, hbd b rfl⟩
      clear hc hbd ho
      have q0 : (0 : Int) ≤ (t : Int) := by omega
      have q1 : (t : Int) < (m : Int) := by omega
      go_wp2_with fail
      all_goals
        go_roundw
        case rel => exact ⟨t + 1, by omega, by go_num, by first | rfl | (congr 1; omega), HM.out.setK _ _ _ HBD.out.1 HBD.out.2, HR.out.setK _ _ _⟩
        case measure => simp [intOf]; omega
    · have q1 : ¬ (t : Int) < (m : Int) := by omega
      obtain rfl : t = m := by omega
      clear hR
      go_wp2_with fail
      go_ret
      exact ⟨rfl, HM.out⟩

set_option maxRecDepth 100000 in
set_option maxHeartbeats 8000000 in
theorem laws_markFNodeS {w : World} {g B1 n : Nat} {F : Nat → FN} (h : Mk w g B1 n F w) (hg : g < B1) (hn : n ≤ 1048576) (hkn : ∀ i, i < n → (F i).kids.length ≤ 1048576) :
    Calls Tryd.prog 16 #[.slice (some ⟨g, 0, none⟩) n n, .int .i64 1] w fun e w' => ∃ k : Int, e = .returned (.int .i64 k) ∧ 0 ≤ k ∧ Mid g B1 w w' := by
  have HM : Hid (Mk w g B1 n F w) := h
  have HKN : Hid (∀ i, i < n → (F i).kids.length ≤ 1048576) := hkn
  clear h hkn
  go_enter Tryd.func16, Tryd.ntmps16
  go_wp2_with fail
  go_loopw [1, 5] (fun q i wr => ∃ (t : Nat) (k : Int), t ≤ n ∧ i = .int .i64 t ∧ q = .int .i64 k ∧ 0 ≤ k ∧ k ≤ 1 + (t : Int) * 1048589 ∧ Mk w g B1 n F wr) (fun _ i _ => n - (intOf i).toNat)
  case atStart => exact ⟨0, 1, Nat.zero_le _, rfl, rfl, by omega, by omega, HM.out⟩
  case round =>
    clear HM
    obtain ⟨t, k, ht, rfl, rfl, hk0, hk1, hM⟩ := hrel
    have HM : Hid (Mk w g B1 n F wr) := hM
    by_cases hlt : t < n
    · obtain ⟨hxwr, KA, kc, d13, _⟩ := hM.cells t hlt
      obtain ⟨x0, d0, f0⟩ : ∃ x, wr.cell? ⟨g, t * 14, none⟩ = some x ∧ wr.frozen? ⟨g, t * 14, none⟩ = false := hxwr 0 (by omega)
      obtain ⟨x1, d1, f1⟩ : ∃ x, wr.cell? ⟨g, t * 14 + 1, none⟩ = some x ∧ wr.frozen? ⟨g, t * 14 + 1, none⟩ = false := hxwr 1 (by omega)
      obtain ⟨x2, d2, f2⟩ : ∃ x, wr.cell? ⟨g, t * 14 + 2, none⟩ = some x ∧ wr.frozen? ⟨g, t * 14 + 2, none⟩ = false := hxwr 2 (by omega)
      obtain ⟨x3, d3, f3⟩ : ∃ x, wr.cell? ⟨g, t * 14 + 2 + 1, none⟩ = some x ∧ wr.frozen? ⟨g, t * 14 + 2 + 1, none⟩ = false := hxwr 3 (by omega)
      clear hxwr d13 hM
      have hkl := HKN.out t hlt
      have q0 : (0 : Int) ≤ (t : Int) := by omega
      have q1 : (t : Int) < (n : Int) := by omega
      have HW4 : Hid (Mk w g B1 n F ((((wr.setCell ⟨g, t * 14, none⟩ (.int .i64 k)).setCell ⟨g, t * 14 + 1, none⟩ (.int .i64 (k + 1))).setCell ⟨g, t * 14 + 2, none⟩ (.int .i64 (k + 1 + 1))).setCell ⟨g, t * 14 + 2 + 1, none⟩ (.int .i64 (k + 1 + 1 + 1)))) :=
        Mk.setG t 3 _ (by omega) hg (Mk.setG t 2 _ (by omega) hg (Mk.setG t 1 _ (by omega) hg (Mk.setG t 0 _ (by omega) hg HM.out)))
      clear HM
      go_wp2_with fail
      refine (laws_markText _ _ (by omega) (by omega)).mono ?_
      rintro e w2 ⟨s, rfl, hb⟩
      have hM2 := HW4.out.below hb
      have HM2 : Hid (Mk w g B1 n F w2) := hM2
      clear hb HW4 d0 f0 d1 f1 d2 f2 d3 f3
      obtain ⟨hxw2, KA, kc, d13, hkr⟩ := hM2.cells t hlt
      obtain ⟨x4, d4, f4⟩ : ∃ x, w2.cell? ⟨g, t * 14 + 2 + 2, none⟩ = some x ∧ w2.frozen? ⟨g, t * 14 + 2 + 2, none⟩ = false := hxw2 4 (by omega)
      obtain ⟨x5, d5, f5⟩ : ∃ x, w2.cell? ⟨g, t * 14 + 5, none⟩ = some x ∧ w2.frozen? ⟨g, t * 14 + 5, none⟩ = false := hxw2 5 (by omega)
      obtain ⟨x6, d6, f6⟩ : ∃ x, w2.cell? ⟨g, t * 14 + 5 + 1, none⟩ = some x ∧ w2.frozen? ⟨g, t * 14 + 5 + 1, none⟩ = false := hxw2 6 (by omega)
      obtain ⟨x7, d7, f7⟩ : ∃ x, w2.cell? ⟨g, t * 14 + 5 + 2, none⟩ = some x ∧ w2.frozen? ⟨g, t * 14 + 5 + 2, none⟩ = false := hxw2 7 (by omega)
      obtain ⟨x8, d8, f8⟩ : ∃ x, w2.cell? ⟨g, t * 14 + 5 + 3, none⟩ = some x ∧ w2.frozen? ⟨g, t * 14 + 5 + 3, none⟩ = false := hxw2 8 (by omega)
      obtain ⟨x9, d9, f9⟩ : ∃ x, w2.cell? ⟨g, t * 14 + 9, none⟩ = some x ∧ w2.frozen? ⟨g, t * 14 + 9, none⟩ = false := hxw2 9 (by omega)
      obtain ⟨x10, d10, f10⟩ : ∃ x, w2.cell? ⟨g, t * 14 + 9 + 1, none⟩ = some x ∧ w2.frozen? ⟨g, t * 14 + 9 + 1, none⟩ = false := hxw2 10 (by omega)
      obtain ⟨x11, d11, f11⟩ : ∃ x, w2.cell? ⟨g, t * 14 + 9 + 2, none⟩ = some x ∧ w2.frozen? ⟨g, t * 14 + 9 + 2, none⟩ = false := hxw2 11 (by omega)
      obtain ⟨x12, d12, f12⟩ : ∃ x, w2.cell? ⟨g, t * 14 + 9 + 3, none⟩ = some x ∧ w2.frozen? ⟨g, t * 14 + 9 + 3, none⟩ = false := hxw2 12 (by omega)
      have HKR : Hid (KRow w2 g B1 KA (F t).kids.length kc) := hkr
      clear hxw2 hM2 hkr
      obtain ⟨m, HL⟩ : ∃ m, Hid ((F t).kids.length = m) := ⟨_, rfl⟩
      rw [HL.out] at d13 hkl HKR
      go_wp2_with fail
      refine (laws_markInt64S _ (Mk.setG t 12 _ (by omega) hg (Mk.setG t 11 _ (by omega) hg (Mk.setG t 10 _ (by omega) hg (Mk.setG t 9 _ (by omega) hg (Mk.setG t 8 _ (by omega) hg (Mk.setG t 7 _ (by omega) hg (Mk.setG t 6 _ (by omega) hg (Mk.setG t 5 _ (by omega) hg (Mk.setG t 4 _ (by omega) hg (HM2.out)))))))))) (KRow.setG (KRow.setG (KRow.setG (KRow.setG (KRow.setG (KRow.setG (KRow.setG (KRow.setG (KRow.setG (HKR.out) _ _) _ _) _ _) _ _) _ _) _ _) _ _) _ _) _ _) hkl (by omega) (by omega)).mono ?_
      rintro e w3 ⟨rfl, hM3⟩
      have HM3 : Hid (Mk w g B1 n F w3) := hM3
      clear hM3
      go_wp2_with fail
      go_roundw
      case rel => exact ⟨t + 1, _, by omega, by go_num, rfl, by omega, by omega, HM3.out⟩
      case measure => simp [intOf]; omega
    · have q1 : ¬ (t : Int) < (n : Int) := by omega
      obtain rfl : t = n := by omega
      clear hM
      go_wp2_with fail
      go_ret
      exact ⟨_, rfl, hk0, HM.out.1⟩
end Go.Proofs.YtfkklffdkpbibaaDoor
