import Derived.Test.YtpkmboohfomieaaGreatDoorFnB
import Derived.Laws.BytesString
import Derived.Test.YtpkmboohfomieaaGreatDoorGaa
import Derived.Test.YtpkmboohfomieaaGreatDoorFnC
import Derived.Deep.RegionHeld3
namespace Go.Proofs.YtpkmboohfomieaaGreatDoor
open Go.RowKit
set_option linter.unusedSimpArgs false

theorem cat_nil (x : ByteArray) : x ++ (⟨#[]⟩ : ByteArray) = x := by apply ByteArray.ext; simp
theorem cat_one (x y : UInt8) : (⟨#[x]⟩ : ByteArray) ++ (⟨#[y]⟩ : ByteArray) = ⟨#[x, y]⟩ := by apply ByteArray.ext; simp

theorem conv0 (W : World) (b : Nat) (v : Int) (hv : W.cell? ⟨b, 0, none⟩ = some (.int .u8 v)) :
    (convert 22 9 (.slice (some ⟨b, 0, none⟩) 1 1)).run Tryz.prog W = .ok (.string ⟨#[UInt8.ofNat v.toNat]⟩) W := by
  rw [run_convert_bytes_string W 22 9 5 (some ⟨b, 0, none⟩) 1 1 Tryz.underlying22 Tryz.underlying5 Tryz.underlying9]
  have hl := run_loadCells_list (P := Tryz.prog) W ⟨b, 0, none⟩ [.int .u8 v] (fun j x hj => by
    match j, hj with
    | 0, hj => simp at hj; simpa [Addr.add, ← hj] using hv)
  rw [run_bytesToString W ⟨b, 0, none⟩ 1 1 [v] (by simpa using hl)]
  rfl
theorem conv1 (W : World) (v : Int) : (convert 22 9 (.slice (some ⟨W.heap.size, 0, none⟩) 1 1)).run Tryz.prog (W.alloc (.cells #[.int .u8 v] 5)) =
    .ok (.string ⟨#[UInt8.ofNat v.toNat]⟩) (W.alloc (.cells #[.int .u8 v] 5)) := conv0 _ _ v (by simp)

set_option maxRecDepth 100000 in
set_option maxHeartbeats 2000000 in
theorem laws_markText (k : Int) (w : World) (h0 : 0 ≤ k) (h1 : k ≤ 1099511627776000) : Calls Tryz.prog 76 #[.int .i64 k] w fun e w' => ∃ s, e = .returned (.string s) ∧ Below w.heap.size w w' := by
  by_cases hz : k ≤ 0
  · go_enter Tryz.func76, Tryz.ntmps76
    go_wp2_with fail
    go_ret
    exact ⟨_, rfl, by go_grown⟩
  go_enter Tryz.func76, Tryz.ntmps76
  go_wp2_with fail
  go_loopw [0, 3] (fun q o wr => ∃ (m : Nat) (s : ByteArray), q = .int .i64 m ∧ o = .string s ∧ (s.size : Int) + m ≤ k ∧ Below w.heap.size w wr) (fun q _ _ => (intOf q).toNat)
  case atStart => exact ⟨k.toNat, ⟨#[]⟩, by congr 1; omega, rfl, by show (0 : Int) + _ ≤ _; omega, Below.refl _ _⟩
  case round =>
    obtain ⟨m, s, rfl, rfl, hsm, hbel⟩ := hrel
    have hcv := @conv1
    by_cases hm : (m : Int) ≤ 0
    · have hs1 : ¬ 9223372036854775807 < 1 + s.size := by omega
      go_wp2_with fail
      go_ret
      exact ⟨_, rfl, hbel⟩
    · have hp : 0 < (m : Int) := by omega
      have hs1 : ¬ 9223372036854775807 < 1 + s.size := by omega
      go_wp2_with fail
      all_goals
        go_roundw
        case rel => exact ⟨m / 10, _, by congr 1, rfl, by rw [ByteArray.size_append]; show ((1 + s.size : Nat) : Int) + ((m / 10 : Nat) : Int) ≤ k; omega, by have hbs := hbel.size; go_grown⟩
        case measure => simp [intOf]; omega

/-! ### A row of nodes of the call's own, and what marking it leaves as it was -/
structure Mid (B0 B1 : Nat) (w W : World) : Prop where
  os : W.os = w.os
  tape : W.tape = w.tape
  output : W.output = w.output
  size : w.heap.size ≤ W.heap.size
  block : ∀ k, k < w.heap.size → k < B0 ∨ B1 ≤ k → W.heap[k]? = w.heap[k]?
theorem Mid.refl (B0 B1 : Nat) (w : World) : Mid B0 B1 w w := ⟨rfl, rfl, rfl, Nat.le_refl _, fun _ _ _ => rfl⟩
theorem Mid.below {B0 B1 : Nat} {w W W' : World} (h : Mid B0 B1 w W) (hb : Below W.heap.size W W') : Mid B0 B1 w W' :=
  ⟨hb.os.trans h.os, hb.tape.trans h.tape, hb.output.trans h.output, Nat.le_trans h.size hb.size, fun k hk hr => (hb.block k (Nat.lt_of_lt_of_le hk h.size)).trans (h.block k hk hr)⟩
theorem Mid.set {B0 B1 : Nat} {w W : World} (h : Mid B0 B1 w W) {a : Addr} (u : Value) (h0 : B0 ≤ a.block) (h1 : a.block < B1) : Mid B0 B1 w (W.setCell a u) :=
  ⟨h.os, h.tape, h.output, by simpa using h.size, fun k hk hr => by rw [Below.heap_setCell _ _ _ _ (by omega)]; exact h.block k hk hr⟩
end Go.Proofs.YtpkmboohfomieaaGreatDoor
namespace Go.Proofs.YtpkmboohfomieaaGreatDoor
open Go.RowKit
set_option linter.unusedSimpArgs false
set_option linter.unusedVariables false

def KRow (W : World) (g B1 : Nat) (KA : Option Addr) (m kc : Nat) : Prop := (∃ zs, W.ownsRow (g + 1) 2 1 (.slice KA m kc) m zs) ∧ ∀ b, (Value.slice KA m kc).ownBlock = some b → b < B1
def Mk (w : World) (g B1 n : Nat) (F : Nat → FN) (W : World) : Prop :=
  Mid g B1 w W ∧ ∃ ys, W.ownsRow g 60 14 (.slice (some ⟨g, 0, none⟩) n n) n ys ∧ ∀ i, i < n → ∃ KA kc, ys[i * 14 + 13]? = some (.slice KA (F i).kids.length kc) ∧ KRow W g B1 KA (F i).kids.length kc
theorem KRow.setG {W : World} {g B1 : Nat} {KA : Option Addr} {m kc : Nat} (h : KRow W g B1 KA m kc) (p : Nat) (u : Value) : KRow (W.setCell ⟨g, p, none⟩ u) g B1 KA m kc := by
  obtain ⟨⟨zs, h1⟩, h2⟩ := h
  exact ⟨⟨zs, ownsRow_setCell_below h1 (Nat.lt_succ_self g) u⟩, h2⟩
theorem KRow.setK {W : World} {g B1 : Nat} {KA : Option Addr} {m kc : Nat} (h : KRow W g B1 KA m kc) (b p : Nat) (u : Value) : KRow (W.setCell ⟨b, p, none⟩ u) g B1 KA m kc := by
  obtain ⟨⟨zs, h1⟩, h2⟩ := h
  refine ⟨?_, h2⟩
  by_cases e : (Value.slice KA m kc).ownBlock = some b
  · rcases h1.2 with ⟨e1, e2⟩ | ⟨g', cap', cur, e1, _⟩
    · rw [e1] at e; cases e
    · cases e1
      cases e
      exact ⟨_, (h1.stored p u).1⟩
  · exact ⟨zs, ownsRow_setCell_other h1 e u⟩
theorem KRow.below {W W' : World} {g B1 : Nat} {KA : Option Addr} {m kc : Nat} (h : KRow W g B1 KA m kc) (hb : Below W.heap.size W W') : KRow W' g B1 KA m kc := by
  obtain ⟨⟨zs, h1⟩, h2⟩ := h
  exact ⟨⟨zs, own_below h1 hb⟩, h2⟩
theorem Mk.below {w W W' : World} {g B1 n : Nat} {F : Nat → FN} (h : Mk w g B1 n F W) (hb : Below W.heap.size W W') : Mk w g B1 n F W' := by
  obtain ⟨h1, ys, h2, h3⟩ := h
  refine ⟨h1.below hb, ys, own_below h2 hb, fun i hi => ?_⟩
  obtain ⟨KA, kc, e1, e2⟩ := h3 i hi
  exact ⟨KA, kc, e1, e2.below hb⟩
theorem Mk.setG {w W : World} {g B1 n : Nat} {F : Nat → FN} (t q : Nat) (u : Value) (hq : q < 13) (hg : g < B1) (h : Mk w g B1 n F W) : Mk w g B1 n F (W.setCell ⟨g, t * 14 + q, none⟩ u) := by
  obtain ⟨h1, ys, h2, h3⟩ := h
  refine ⟨h1.set u (Nat.le_refl _) hg, _, (h2.stored (t * 14 + q) u).1, fun i hi => ?_⟩
  obtain ⟨KA, kc, e1, e2⟩ := h3 i hi
  exact ⟨KA, kc, by rw [List.getElem?_set_ne (by omega)]; exact e1, e2.setG _ _⟩
theorem Mk.setK {w W : World} {g B1 n : Nat} {F : Nat → FN} (b p : Nat) (u : Value) (hb : g < b) (hb1 : b < B1) (h : Mk w g B1 n F W) : Mk w g B1 n F (W.setCell ⟨b, p, none⟩ u) := by
  obtain ⟨h1, ys, h2, h3⟩ := h
  refine ⟨h1.set u (by show g ≤ b; omega) hb1, ys, ownsRow_setCell_other h2 (fun e => by cases e; omega) u, fun i hi => ?_⟩
  obtain ⟨KA, kc, e1, e2⟩ := h3 i hi
  exact ⟨KA, kc, e1, e2.setK _ _ _⟩
theorem Mk.cells {w W : World} {g B1 n : Nat} {F : Nat → FN} (h : Mk w g B1 n F W) (t : Nat) (ht : t < n) : (∀ j, j < 13 → ∃ x, W.cell? ⟨g, t * 14 + j, none⟩ = some x ∧ W.frozen? ⟨g, t * 14 + j, none⟩ = false) ∧
    ∃ KA kc, W.cell? ⟨g, t * 14 + 13, none⟩ = some (.slice KA (F t).kids.length kc) ∧ KRow W g B1 KA (F t).kids.length kc := by
  obtain ⟨_, ys, h2, h3⟩ := h
  obtain ⟨A', cap', e, _, hc⟩ := own_shape h2
  cases e
  have hl := h2.1
  constructor
  · intro j hj
    obtain ⟨g', e', _, _, d, f⟩ := hc (t * 14 + j) (by omega)
    cases e'
    exact ⟨_, d.trans (List.getElem?_eq_getElem (by omega)), f⟩
  · obtain ⟨KA, kc, e1, e2⟩ := h3 t ht
    obtain ⟨g', e', _, _, d, f⟩ := hc (t * 14 + 13) (by omega)
    cases e'
    exact ⟨KA, kc, d.trans e1, e2⟩

set_option maxHeartbeats 2000000 in
theorem laws_markInt64S {w0 w : World} {g B1 n m kc : Nat} {F : Nat → FN} {KA : Option Addr} (k : Int) (h : Mk w0 g B1 n F w) (hr : KRow w g B1 KA m kc) (hm : m ≤ 1048576) (h0 : 0 ≤ k) (h1 : k ≤ 1099511627776000) :
    Calls Tryz.prog 77 #[.slice KA m kc, .int .i64 k] w fun e w' => e = .returned (.int .i64 (k + m)) ∧ Mk w0 g B1 n F w' := by
  have HM : Hid (Mk w0 g B1 n F w) := h
  have HR : Hid (KRow w g B1 KA m kc) := hr
  clear h hr
  go_enter Tryz.func77, Tryz.ntmps77
  go_wp2_with fail
  go_loopw [1, 5] (fun q i wr => ∃ t : Nat, t ≤ m ∧ i = .int .i64 t ∧ q = .int .i64 (k + (t : Int)) ∧ Mk w0 g B1 n F wr ∧ KRow wr g B1 KA m kc) (fun _ i _ => m - (intOf i).toNat)
  case atStart => exact ⟨0, Nat.zero_le _, rfl, by simp, HM.out, HR.out⟩
  case round =>
    clear HM HR
    obtain ⟨t, ht, rfl, rfl, hM, hR⟩ := hrel
    have HM : Hid (Mk w0 g B1 n F wr) := hM
    have HR : Hid (KRow wr g B1 KA m kc) := hR
    clear hM
    by_cases hlt : t < m
    · obtain ⟨⟨zs, ho⟩, hbd⟩ := hR
      have hl := ho.1
      obtain ⟨A', cap', e, _, hc⟩ := own_shape ho
      cases e
      obtain ⟨b, rfl, hgb, hb, d0, f0⟩ := hc t (by omega)
      obtain ⟨z, hz⟩ : ∃ z, zs[t]? = some z := ⟨_, List.getElem?_eq_getElem (by omega)⟩
      rw [hz] at d0
      clear hz
      have HBD : Hid (g < b ∧ b < B1) := ⟨by omega, hbd b rfl⟩
      clear hc hbd ho
      have q0 : (0 : Int) ≤ (t : Int) := by omega
      have q1 : (t : Int) < (m : Int) := by omega
      go_wp2_with fail
      all_goals
        go_roundw
        case rel => exact ⟨t + 1, by omega, by go_num, by first | rfl | (congr 1; omega), HM.out.setK _ _ _ HBD.out.1 HBD.out.2, HR.out.setK _ _ _⟩
        case measure => simp [intOf]; omega
    · have q1 : ¬ (t : Int) < (m : Int) := by omega
      obtain rfl : t = m := by omega
      clear hR
      go_wp2_with fail
      go_ret
      exact ⟨rfl, HM.out⟩

set_option maxRecDepth 100000 in
set_option maxHeartbeats 8000000 in
theorem laws_markFNodeS {w : World} {g B1 n : Nat} {F : Nat → FN} (h : Mk w g B1 n F w) (hg : g < B1) (hn : n ≤ 1048576) (hkn : ∀ i, i < n → (F i).kids.length ≤ 1048576) :
    Calls Tryz.prog 32 #[.slice (some ⟨g, 0, none⟩) n n, .int .i64 1] w fun e w' => ∃ k : Int, e = .returned (.int .i64 k) ∧ 0 ≤ k ∧ Mid g B1 w w' := by
  have HM : Hid (Mk w g B1 n F w) := h
  have HKN : Hid (∀ i, i < n → (F i).kids.length ≤ 1048576) := hkn
  clear h hkn
  go_enter Tryz.func32, Tryz.ntmps32
  go_wp2_with fail
  go_loopw [1, 5] (fun q i wr => ∃ (t : Nat) (k : Int), t ≤ n ∧ i = .int .i64 t ∧ q = .int .i64 k ∧ 0 ≤ k ∧ k ≤ 1 + (t : Int) * 1048589 ∧ Mk w g B1 n F wr) (fun _ i _ => n - (intOf i).toNat)
  case atStart => exact ⟨0, 1, Nat.zero_le _, rfl, rfl, by omega, by omega, HM.out⟩
  case round =>
    clear HM
    obtain ⟨t, k, ht, rfl, rfl, hk0, hk1, hM⟩ := hrel
    have HM : Hid (Mk w g B1 n F wr) := hM
    by_cases hlt : t < n
    · obtain ⟨hxwr, KA, kc, d13, _⟩ := hM.cells t hlt
      obtain ⟨x0, d0, f0⟩ : ∃ x, wr.cell? ⟨g, t * 14, none⟩ = some x ∧ wr.frozen? ⟨g, t * 14, none⟩ = false := hxwr 0 (by omega)
      obtain ⟨x1, d1, f1⟩ : ∃ x, wr.cell? ⟨g, t * 14 + 1, none⟩ = some x ∧ wr.frozen? ⟨g, t * 14 + 1, none⟩ = false := hxwr 1 (by omega)
      obtain ⟨x2, d2, f2⟩ : ∃ x, wr.cell? ⟨g, t * 14 + 2, none⟩ = some x ∧ wr.frozen? ⟨g, t * 14 + 2, none⟩ = false := hxwr 2 (by omega)
      obtain ⟨x3, d3, f3⟩ : ∃ x, wr.cell? ⟨g, t * 14 + 2 + 1, none⟩ = some x ∧ wr.frozen? ⟨g, t * 14 + 2 + 1, none⟩ = false := hxwr 3 (by omega)
      clear hxwr d13 hM
      have hkl := HKN.out t hlt
      have q0 : (0 : Int) ≤ (t : Int) := by omega
      have q1 : (t : Int) < (n : Int) := by omega
      have HW4 : Hid (Mk w g B1 n F ((((wr.setCell ⟨g, t * 14, none⟩ (.int .i64 k)).setCell ⟨g, t * 14 + 1, none⟩ (.int .i64 (k + 1))).setCell ⟨g, t * 14 + 2, none⟩ (.int .i64 (k + 1 + 1))).setCell ⟨g, t * 14 + 2 + 1, none⟩ (.int .i64 (k + 1 + 1 + 1)))) :=
        Mk.setG t 3 _ (by omega) hg (Mk.setG t 2 _ (by omega) hg (Mk.setG t 1 _ (by omega) hg (Mk.setG t 0 _ (by omega) hg HM.out)))
      clear HM
      go_wp2_with fail
      refine (laws_markText _ _ (by omega) (by omega)).mono ?_
      rintro e w2 ⟨s, rfl, hb⟩
      have hM2 := HW4.out.below hb
      have HM2 : Hid (Mk w g B1 n F w2) := hM2
      clear hb HW4 d0 f0 d1 f1 d2 f2 d3 f3
      obtain ⟨hxw2, KA, kc, d13, hkr⟩ := hM2.cells t hlt
      obtain ⟨x4, d4, f4⟩ : ∃ x, w2.cell? ⟨g, t * 14 + 2 + 2, none⟩ = some x ∧ w2.frozen? ⟨g, t * 14 + 2 + 2, none⟩ = false := hxw2 4 (by omega)
      obtain ⟨x5, d5, f5⟩ : ∃ x, w2.cell? ⟨g, t * 14 + 5, none⟩ = some x ∧ w2.frozen? ⟨g, t * 14 + 5, none⟩ = false := hxw2 5 (by omega)
      obtain ⟨x6, d6, f6⟩ : ∃ x, w2.cell? ⟨g, t * 14 + 5 + 1, none⟩ = some x ∧ w2.frozen? ⟨g, t * 14 + 5 + 1, none⟩ = false := hxw2 6 (by omega)
      obtain ⟨x7, d7, f7⟩ : ∃ x, w2.cell? ⟨g, t * 14 + 5 + 2, none⟩ = some x ∧ w2.frozen? ⟨g, t * 14 + 5 + 2, none⟩ = false := hxw2 7 (by omega)
      obtain ⟨x8, d8, f8⟩ : ∃ x, w2.cell? ⟨g, t * 14 + 5 + 3, none⟩ = some x ∧ w2.frozen? ⟨g, t * 14 + 5 + 3, none⟩ = false := hxw2 8 (by omega)
      obtain ⟨x9, d9, f9⟩ : ∃ x, w2.cell? ⟨g, t * 14 + 9, none⟩ = some x ∧ w2.frozen? ⟨g, t * 14 + 9, none⟩ = false := hxw2 9 (by omega)
      obtain ⟨x10, d10, f10⟩ : ∃ x, w2.cell? ⟨g, t * 14 + 9 + 1, none⟩ = some x ∧ w2.frozen? ⟨g, t * 14 + 9 + 1, none⟩ = false := hxw2 10 (by omega)
      obtain ⟨x11, d11, f11⟩ : ∃ x, w2.cell? ⟨g, t * 14 + 9 + 2, none⟩ = some x ∧ w2.frozen? ⟨g, t * 14 + 9 + 2, none⟩ = false := hxw2 11 (by omega)
      obtain ⟨x12, d12, f12⟩ : ∃ x, w2.cell? ⟨g, t * 14 + 9 + 3, none⟩ = some x ∧ w2.frozen? ⟨g, t * 14 + 9 + 3, none⟩ = false := hxw2 12 (by omega)
      have HKR : Hid (KRow w2 g B1 KA (F t).kids.length kc) := hkr
      clear hxw2 hM2 hkr
      obtain ⟨m, HL⟩ : ∃ m, Hid ((F t).kids.length = m) := ⟨_, rfl⟩
      rw [HL.out] at d13 hkl HKR
      go_wp2_with fail
      refine (laws_markInt64S _ (Mk.setG t 12 _ (by omega) hg (Mk.setG t 11 _ (by omega) hg (Mk.setG t 10 _ (by omega) hg (Mk.setG t 9 _ (by omega) hg (Mk.setG t 8 _ (by omega) hg (Mk.setG t 7 _ (by omega) hg (Mk.setG t 6 _ (by omega) hg (Mk.setG t 5 _ (by omega) hg (Mk.setG t 4 _ (by omega) hg (HM2.out)))))))))) (KRow.setG (KRow.setG (KRow.setG (KRow.setG (KRow.setG (KRow.setG (KRow.setG (KRow.setG (KRow.setG (HKR.out) _ _) _ _) _ _) _ _) _ _) _ _) _ _) _ _) _ _) hkl (by omega) (by omega)).mono ?_
      rintro e w3 ⟨rfl, hM3⟩
      have HM3 : Hid (Mk w g B1 n F w3) := hM3
      clear hM3
      go_wp2_with fail
      go_roundw
      case rel => exact ⟨t + 1, _, by omega, by go_num, rfl, by omega, by omega, HM3.out⟩
      case measure => simp [intOf]; omega
    · have q1 : ¬ (t : Int) < (n : Int) := by omega
      obtain rfl : t = n := by omega
      clear hM
      go_wp2_with fail
      go_ret
      exact ⟨_, rfl, hk0, HM.out.1⟩
end Go.Proofs.YtpkmboohfomieaaGreatDoor
namespace Go.Proofs.YtpkmboohfomieaaGreatDoor
open Go.RowKit
set_option linter.unusedSimpArgs false

theorem infoAr : (Tryz.prog.info? 84).map (fun i => (i.zero, i.size, i.bytes)) = some (some (.agg #[.int .i64 0, .int .i64 0, .int .i64 0, .int .i64 0]), 4, 32) := by kernel_rfl

/-- What is marked, one number behind the other. -/
def Marked (ys : List Value) (k : Int) (m : Nat) : Prop := ∀ j, j < m → ys[j]? = some (.int .i64 (k + (j : Nat)))
theorem mark_step {W : World} {B : Nat} {e : TypeId} {g n cap t : Nat} {ys : List Value} {k : Int} (h : W.ownsRow B e 4 (.slice (some ⟨g, 0, none⟩) n cap) n ys) (ht : t < n) (hy : Marked ys k (t * 4)) :
    ∃ zs, (setAll W g (t * 4) [.int .i64 (k + (t : Int) * 4), .int .i64 (k + (t : Int) * 4 + 1), .int .i64 (k + (t : Int) * 4 + 1 + 1), .int .i64 (k + (t : Int) * 4 + 1 + 1 + 1)]).ownsRow B e 4 (.slice (some ⟨g, 0, none⟩) n cap) n zs ∧ Marked zs k ((t + 1) * 4) ∧
      W.grownBy (setAll W g (t * 4) [.int .i64 (k + (t : Int) * 4), .int .i64 (k + (t : Int) * 4 + 1), .int .i64 (k + (t : Int) * 4 + 1 + 1), .int .i64 (k + (t : Int) * 4 + 1 + 1 + 1)]) (some g) := by
  obtain ⟨o, gr⟩ := own_set [.int .i64 (k + (t : Int) * 4), .int .i64 (k + (t : Int) * 4 + 1), .int .i64 (k + (t : Int) * 4 + 1 + 1), .int .i64 (k + (t : Int) * 4 + 1 + 1 + 1)] W (t * 4) ys h
  refine ⟨_, o, fun j hj => ?_, gr⟩
  have hl := h.1
  by_cases h4 : j < t * 4
  · rw [overw_lt _ _ _ _ h4]; exact hy j h4
  · obtain ⟨q, rfl⟩ : ∃ q, j = t * 4 + q := ⟨j - t * 4, by omega⟩
    rw [overw_at _ _ _ q (by show q < 4; omega) (by show t * 4 + 4 ≤ ys.length; omega)]
    have hq : q = 0 ∨ q = 1 ∨ q = 2 ∨ q = 3 := by omega
    rcases hq with rfl | rfl | rfl | rfl
    · show some (Value.int .i64 _) = some (Value.int .i64 _); first | rfl | (congr 2; done) | (congr 2; omega)
    · show some (Value.int .i64 _) = some (Value.int .i64 _); first | rfl | (congr 2; done) | (congr 2; omega)
    · show some (Value.int .i64 _) = some (Value.int .i64 _); first | rfl | (congr 2; done) | (congr 2; omega)
    · show some (Value.int .i64 _) = some (Value.int .i64 _); first | rfl | (congr 2; done) | (congr 2; omega)

end Go.Proofs.YtpkmboohfomieaaGreatDoor
namespace Go.Proofs.YtpkmboohfomieaaGreatDoor
open Go.RowKit
set_option linter.unusedSimpArgs false
set_option linter.unusedVariables false

/-- The digits of a number, ahead of a text. -/
def mtGo (m : Nat) (s : ByteArray) : ByteArray := if h : m = 0 then s else mtGo (m / 10) ((⟨#[48 + UInt8.ofNat (m % 10)]⟩ : ByteArray) ++ s)
  termination_by m
  decreasing_by omega
def mtx (k : Int) : ByteArray := (⟨#[109]⟩ : ByteArray) ++ mtGo k.toNat ⟨#[]⟩
theorem mtGo_zero (s : ByteArray) : mtGo 0 s = s := by rw [mtGo]; rfl
theorem mtGo_step {m : Nat} (h : m ≠ 0) (s : ByteArray) : mtGo m s = mtGo (m / 10) ((⟨#[48 + UInt8.ofNat (m % 10)]⟩ : ByteArray) ++ s) := by
  rw [mtGo, dif_neg h]

set_option maxRecDepth 100000 in
set_option maxHeartbeats 2000000 in
theorem laws_markTextV (k : Int) (w : World) (h0 : 0 < k) (h1 : k ≤ 1099511627776000) : Calls Tryz.prog 76 #[.int .i64 k] w fun e w' => e = .returned (.string (mtx k)) ∧ Below w.heap.size w w' := by
  have hz : ¬ k ≤ 0 := by omega
  go_enter Tryz.func76, Tryz.ntmps76
  go_wp2_with fail
  go_loopw [0, 3] (fun q o wr => ∃ (m : Nat) (s : ByteArray), q = .int .i64 m ∧ o = .string s ∧ (s.size : Int) + m ≤ k ∧ mtGo m s = mtGo k.toNat ⟨#[]⟩ ∧ Below w.heap.size w wr) (fun q _ _ => (intOf q).toNat)
  case atStart => exact ⟨k.toNat, ⟨#[]⟩, by congr 1; omega, rfl, by show (0 : Int) + _ ≤ _; omega, rfl, Below.refl _ _⟩
  case round =>
    obtain ⟨m, s, rfl, rfl, hsm, hgo, hbel⟩ := hrel
    have HG : Hid (mtGo m s = mtGo k.toNat ⟨#[]⟩) := hgo
    clear hgo
    have hcv := @conv1
    by_cases hm : (m : Int) ≤ 0
    · have hs1 : ¬ 9223372036854775807 < 1 + s.size := by omega
      have hm0 : m = 0 := by omega
      have HF : Hid ((⟨#[109]⟩ : ByteArray) ++ s = mtx k) := by
        show _ = _
        rw [mtx, ← HG.out, hm0, mtGo_zero]
      clear hm0
      go_wp2_with fail
      go_ret
      exact ⟨by rw [← HF.out]; rfl, hbel⟩
    · have hp : 0 < (m : Int) := by omega
      have hs1 : ¬ 9223372036854775807 < 1 + s.size := by omega
      have hm0 : m ≠ 0 := by omega
      have HS := HG.out
      rw [mtGo_step hm0] at HS
      have HT : Hid (mtGo (m / 10) ((⟨#[48 + UInt8.ofNat (m % 10)]⟩ : ByteArray) ++ s) = mtGo k.toNat ⟨#[]⟩) := HS
      clear HS HG hm0
      go_wp2_with fail
      all_goals
        go_roundw
        case rel => exact ⟨m / 10, _, by congr 1, rfl, by rw [ByteArray.size_append]; show ((1 + s.size : Nat) : Int) + ((m / 10 : Nat) : Int) ≤ k; omega, HT.out, by have hbs := hbel.size; go_grown⟩
        case measure => simp [intOf]; omega

/-- What is marked in a row of numbers. -/
theorem mark_one {W : World} {B g n cap t : Nat} {ys : List Value} {k : Int} (h : W.ownsRow B 2 1 (.slice (some ⟨g, 0, none⟩) n cap) n ys) (ht : t < n) (hy : Marked ys k t) :
    ∃ zs, (W.setCell ⟨g, t, none⟩ (.int .i64 (k + (t : Int)))).ownsRow B 2 1 (.slice (some ⟨g, 0, none⟩) n cap) n zs ∧ Marked zs k (t + 1) ∧ W.grownBy (W.setCell ⟨g, t, none⟩ (.int .i64 (k + (t : Int)))) (some g) := by
  have hl := h.1
  refine ⟨_, (h.stored t (.int .i64 (k + (t : Int)))).1, fun j hj => ?_, (h.stored t (.int .i64 (k + (t : Int)))).2⟩
  by_cases e : j = t
  · subst e; rw [List.getElem?_set_self (by omega)]
  · rw [List.getElem?_set_ne (by omega)]; exact hy j (by omega)

set_option maxHeartbeats 2000000 in
theorem laws_markInt64SV {B n : Nat} {v : Value} {xs : List Value} (k : Int) (w : World) (h : w.ownsRow B 2 1 v n xs) (hn : n ≤ 1048576) (h0 : 0 ≤ k) (h1 : k ≤ 1099511627776000) :
    Calls Tryz.prog 77 #[v, .int .i64 k] w fun e w' => e = .returned (.int .i64 (k + (n : Int))) ∧ (∃ ys, w'.ownsRow B 2 1 v n ys ∧ Marked ys k n) ∧ w.grownBy w' v.ownBlock := by
  have HO : Hid (w.ownsRow B 2 1 v n xs) := h
  obtain ⟨A, cap, rfl, _, _⟩ := own_shape h
  clear h
  go_enter Tryz.func77, Tryz.ntmps77
  go_wp2_with fail
  go_loopw [1, 5] (fun q i wr => ∃ t : Nat, t ≤ n ∧ i = .int .i64 t ∧ q = .int .i64 (k + (t : Int)) ∧ (∃ ys, wr.ownsRow B 2 1 (.slice A n cap) n ys ∧ Marked ys k t) ∧ w.grownBy wr (Value.slice A n cap).ownBlock) (fun _ i _ => n - (intOf i).toNat)
  case atStart => exact ⟨0, Nat.zero_le _, rfl, by simp, ⟨xs, HO.out, fun j hj => by omega⟩, World.grownBy.refl _ _⟩
  case round =>
    clear HO
    obtain ⟨t, ht, rfl, rfl, ⟨ys, hown, hys⟩, hgr⟩ := hrel
    by_cases hlt : t < n
    · obtain ⟨A', cap', e, _, hc⟩ := own_shape hown
      cases e
      have hl := hown.1
      obtain ⟨g, rfl, _, hg, d0, f0⟩ := hc t (by omega)
      obtain ⟨z, hz⟩ : ∃ z, ys[t]? = some z := ⟨_, List.getElem?_eq_getElem (by omega)⟩
      rw [hz] at d0
      clear hz hc hl
      have HT : Hid (∃ zs, (wr.setCell ⟨g, t, none⟩ (.int .i64 (k + (t : Int)))).ownsRow B 2 1 (.slice (some ⟨g, 0, none⟩) n cap) n zs ∧ Marked zs k (t + 1) ∧ wr.grownBy (wr.setCell ⟨g, t, none⟩ (.int .i64 (k + (t : Int)))) (some g)) := mark_one hown hlt hys
      have HG : Hid (w.grownBy wr (some g)) := hgr
      clear hgr hown hys
      have q0 : (0 : Int) ≤ (t : Int) := by omega
      have q1 : (t : Int) < (n : Int) := by omega
      go_wp2_with fail
      all_goals
        go_roundw
        case rel =>
          obtain ⟨zs, z1, z2, z3⟩ := HT.out
          exact ⟨t + 1, by omega, by simp, by first | rfl | (congr 1; omega), ⟨zs, z1, z2⟩, grown_trans HG.out z3⟩
        case measure => simp [intOf]; omega
    · have h1 : ¬ (t : Int) < (n : Int) := by omega
      obtain rfl : t = n := by omega
      go_wp2_with fail
      go_ret
      exact ⟨rfl, ⟨ys, hown, hys⟩, hgr⟩

set_option maxHeartbeats 2000000 in
theorem laws_heldInt64SV {B n : Nat} {v : Value} {ys : List Value} (k : Int) (w : World) (h : w.ownsRow B 2 1 v n ys) (hy : Marked ys k n) (hn : n ≤ 1048576) (h0 : 0 ≤ k) (h1 : k ≤ 1099511627776000) :
    Calls Tryz.prog 78 #[v, .int .i64 k] w fun e w' => e = .returned (.int .i64 (k + (n : Int))) ∧ Below w.heap.size w w' := by
  obtain ⟨A, cap, rfl, _, hc⟩ := own_shape h
  have HC : Hid (∀ t, t < n → ∃ g, A = some ⟨g, 0, none⟩ ∧ g < w.heap.size ∧ w.cell? ⟨g, t, none⟩ = some (.int .i64 (k + (t : Int)))) := by
    intro t ht
    obtain ⟨g, rfl, _, hg, c0, _⟩ := hc t (by omega)
    exact ⟨g, rfl, hg, c0.trans (hy _ ht)⟩
  clear hc h hy
  go_enter Tryz.func78, Tryz.ntmps78
  go_wp2_with fail
  go_loopw [1, 5] (fun q i wr => ∃ t : Nat, t ≤ n ∧ i = .int .i64 t ∧ q = .int .i64 (k + (t : Int)) ∧ Below w.heap.size w wr) (fun _ i _ => n - (intOf i).toNat)
  case atStart => exact ⟨0, Nat.zero_le _, rfl, by simp, Below.refl _ _⟩
  case round =>
    obtain ⟨t, ht, rfl, rfl, hbel⟩ := hrel
    by_cases hlt : t < n
    · obtain ⟨g, rfl, hg, c0⟩ := HC.out t hlt
      rw [← hbel.cell (p := ⟨_, _, none⟩) hg] at c0
      have q0 : (0 : Int) ≤ (t : Int) := by omega
      have q1 : (t : Int) < (n : Int) := by omega
      go_wp2_with fail
      all_goals
        go_roundw
        case rel => exact ⟨t + 1, by omega, by simp, by congr 1; omega, by go_grown⟩
        case measure => simp [intOf]; omega
    · have h1 : ¬ (t : Int) < (n : Int) := by omega
      obtain rfl : t = n := by omega
      go_wp2_with fail
      go_ret
      exact ⟨rfl, hbel⟩
end Go.Proofs.YtpkmboohfomieaaGreatDoor
namespace Go.Proofs.YtpkmboohfomieaaGreatDoor
open Go.RowKit
set_option linter.unusedSimpArgs false
set_option linter.unusedVariables false

/-- The number that the marks of a node begin with. -/
def kq (L : Nat → Nat) : Nat → Int
  | 0 => 1
  | i + 1 => kq L i + 13 + (L i : Int)
theorem kq_pos (L : Nat → Nat) : ∀ i, 0 < kq L i
  | 0 => by show (0 : Int) < 1; decide
  | i + 1 => by have := kq_pos L i; rw [kq]; omega
theorem kq_le {L : Nat → Nat} {n : Nat} (h : ∀ i, i < n → L i ≤ 1048576) : ∀ i, i ≤ n → kq L i ≤ 1 + (i : Int) * 1048589
  | 0, _ => by rw [kq]; omega
  | i + 1, hi => by have := kq_le h i (by omega); have := h i (by omega); rw [kq]; omega
def m3 (k : Int) : Bool := k % 3 == 0
/-- The marks of a node. -/
def markL (k : Int) : List Value := [.int .i64 (k), .int .i64 (k + 1), .int .i64 (k + 1 + 1), .int .i64 (k + 1 + 1 + 1), .string (mtx (k + 1 + 1 + 1 + 1)), .int .i64 (k + 1 + 1 + 1 + 1 + 1), .int .i64 (k + 1 + 1 + 1 + 1 + 1 + 1), .bool (m3 (k + 1 + 1 + 1 + 1 + 1 + 1 + 1)), .bool (m3 (k + 1 + 1 + 1 + 1 + 1 + 1 + 1 + 1)), .int .i64 (k + 1 + 1 + 1 + 1 + 1 + 1 + 1 + 1 + 1), .int .i64 (k + 1 + 1 + 1 + 1 + 1 + 1 + 1 + 1 + 1 + 1), .bool (m3 (k + 1 + 1 + 1 + 1 + 1 + 1 + 1 + 1 + 1 + 1 + 1)), .bool (m3 (k + 1 + 1 + 1 + 1 + 1 + 1 + 1 + 1 + 1 + 1 + 1 + 1))]
def kblock (ys : List Value) (i : Nat) : Option Nat := (ys[i * 14 + 13]?).bind Value.ownBlock
def KDiff (ys : List Value) (n : Nat) : Prop := ∀ i j, i < n → j < n → i ≠ j → ∀ b, kblock ys i = some b → kblock ys j ≠ some b
theorem cell_set_ne {W : World} {b p q : Nat} {u : Value} (h : p ≠ q) : (W.setCell ⟨b, p, none⟩ u).cell? ⟨b, q, none⟩ = W.cell? ⟨b, q, none⟩ := by
  rw [World.cell?_setCell_other]
  intro e
  cases e
  exact h rfl
/-- A row of nodes of which t are marked, and of the next one q cells. -/
def MkV (w : World) (g B1 n : Nat) (L : Nat → Nat) (W : World) (t q : Nat) : Prop :=
  Mid g B1 w W ∧ ∃ ys, W.ownsRow g 60 14 (.slice (some ⟨g, 0, none⟩) n n) n ys ∧
    (∀ i, i < n → ∃ KA kc zs, ys[i * 14 + 13]? = some (.slice KA (L i) kc) ∧ W.ownsRow (g + 1) 2 1 (.slice KA (L i) kc) (L i) zs ∧ (∀ b, (Value.slice KA (L i) kc).ownBlock = some b → b < B1) ∧ (i < t → Marked zs (kq L i + 13) (L i))) ∧
    (∀ i j, i < t → j < 13 → ys[i * 14 + j]? = (markL (kq L i))[j]?) ∧ (∀ j, j < q → ys[t * 14 + j]? = (markL (kq L t))[j]?) ∧ KDiff ys n
theorem MkV.below {w W W' : World} {g B1 n t q : Nat} {L : Nat → Nat} (h : MkV w g B1 n L W t q) (hb : Below W.heap.size W W') : MkV w g B1 n L W' t q := by
  obtain ⟨h1, ys, h2, h3, h4, h5, h6⟩ := h
  refine ⟨h1.below hb, ys, own_below h2 hb, fun i hi => ?_, h4, h5, h6⟩
  obtain ⟨KA, kc, zs, e1, e2, e3, e4⟩ := h3 i hi
  exact ⟨KA, kc, zs, e1, own_below e2 hb, e3, e4⟩
theorem MkV.set {w W : World} {g B1 n t : Nat} (q : Nat) {L : Nat → Nat} (u : Value) (h : MkV w g B1 n L W t q) (hq : q < 13) (ht : t < n) (hg : g < B1) (hu : (markL (kq L t))[q]? = some u) : MkV w g B1 n L (W.setCell ⟨g, t * 14 + q, none⟩ u) t (q + 1) := by
  obtain ⟨h1, ys, h2, h3, h4, h5, h6⟩ := h
  have hl := h2.1
  have hk : ∀ i, (ys.set (t * 14 + q) u)[i * 14 + 13]? = ys[i * 14 + 13]? := fun i => List.getElem?_set_ne (by omega)
  refine ⟨h1.set u (Nat.le_refl _) hg, _, (h2.stored (t * 14 + q) u).1, fun i hi => ?_, fun i j hi hj => ?_, fun j hj => ?_, fun i j hi hj hne b => ?_⟩
  · obtain ⟨KA, kc, zs, e1, e2, e3, e4⟩ := h3 i hi
    exact ⟨KA, kc, zs, (hk i).trans e1, ownsRow_setCell_below e2 (Nat.lt_succ_self g) u, e3, e4⟩
  · rw [List.getElem?_set_ne (by omega)]; exact h4 i j hi hj
  · by_cases e : j = q
    · subst e; rw [List.getElem?_set_self (by omega)]; exact hu.symm
    · rw [List.getElem?_set_ne (by omega)]; exact h5 j (by omega)
  · unfold kblock; rw [hk i, hk j]; exact h6 i j hi hj hne b
theorem MkV.kid {w W : World} {g B1 n t : Nat} {L : Nat → Nat} (h : MkV w g B1 n L W t 13) (ht : t < n) :
    ∃ KA kc zs, W.cell? ⟨g, t * 14 + 13, none⟩ = some (.slice KA (L t) kc) ∧ W.ownsRow (g + 1) 2 1 (.slice KA (L t) kc) (L t) zs ∧
      ∀ W' zs', W'.ownsRow (g + 1) 2 1 (.slice KA (L t) kc) (L t) zs' → Marked zs' (kq L t + 13) (L t) → W.grownBy W' (Value.slice KA (L t) kc).ownBlock → MkV w g B1 n L W' (t + 1) 0 := by
  obtain ⟨h1, ys, h2, h3, h4, h5, h6⟩ := h
  obtain ⟨A', cap', e, _, hc⟩ := own_shape h2
  cases e
  obtain ⟨KA, kc, zs, e1, e2, e3, e4⟩ := h3 t ht
  obtain ⟨g', e', _, _, d, f⟩ := hc (t * 14 + 13) (by omega)
  cases e'
  refine ⟨KA, kc, zs, d.trans e1, e2, fun W' zs' o' m' gr => ?_⟩
  refine ⟨⟨gr.os.trans h1.os, gr.tape.trans h1.tape, gr.output.trans h1.output, Nat.le_trans h1.size gr.size, fun k hk hr => (gr.block k (Nat.lt_of_lt_of_le hk h1.size) (fun e => ?_)).trans (h1.block k hk hr)⟩, ys, h2.kept gr (Or.inr fun e => ?_), fun i hi => ?_, fun i j hi hj => ?_, fun j hj => by omega, h6⟩
  · have a1 := (e2.lt k e.symm).1
    have a2 := e3 k e.symm
    omega
  · have a1 := (e2.lt g e.symm).1
    omega
  · by_cases e : i = t
    · subst e
      exact ⟨KA, kc, zs', e1, o', e3, fun _ => m'⟩
    · obtain ⟨KB, kb, ys', q1, q2, q3, q4⟩ := h3 i hi
      refine ⟨KB, kb, ys', q1, q2.kept gr ?_, q3, fun hlt => q4 (by omega)⟩
      cases hv : (Value.slice KB (L i) kb).ownBlock with
      | none => exact Or.inl rfl
      | some b =>
        right
        intro e9
        refine h6 i t hi ht e b (by unfold kblock; rw [q1]; exact hv) (by unfold kblock; rw [e1]; exact e9.symm)
  · by_cases e : i = t
    · subst e; exact h5 j hj
    · exact h4 i j (by omega) hj
theorem MkV.cells {w W : World} {g B1 n t q : Nat} {L : Nat → Nat} (h : MkV w g B1 n L W t q) (ht : t < n) : ∀ j, j < 14 → ∃ x, W.cell? ⟨g, t * 14 + j, none⟩ = some x ∧ W.frozen? ⟨g, t * 14 + j, none⟩ = false := by
  obtain ⟨_, ys, h2, h3, _⟩ := h
  obtain ⟨A', cap', e, _, hc⟩ := own_shape h2
  cases e
  have hl := h2.1
  intro j hj
  obtain ⟨g', e', _, _, d, f⟩ := hc (t * 14 + j) (by omega)
  cases e'
  exact ⟨_, d.trans (List.getElem?_eq_getElem (by omega)), f⟩
/-- A row of nodes that are all marked. -/
def HeldV (W : World) (g n : Nat) (L : Nat → Nat) : Prop :=
  ∃ ys, W.ownsRow g 60 14 (.slice (some ⟨g, 0, none⟩) n n) n ys ∧ ∀ i, i < n → (∀ j, j < 13 → ys[i * 14 + j]? = (markL (kq L i))[j]?) ∧
    ∃ KA kc zs, ys[i * 14 + 13]? = some (.slice KA (L i) kc) ∧ W.ownsRow (g + 1) 2 1 (.slice KA (L i) kc) (L i) zs ∧ Marked zs (kq L i + 13) (L i)
theorem HeldV.below {W W' : World} {g n : Nat} {L : Nat → Nat} (h : HeldV W g n L) (hb : Below W.heap.size W W') : HeldV W' g n L := by
  obtain ⟨ys, h1, h2⟩ := h
  refine ⟨ys, own_below h1 hb, fun i hi => ?_⟩
  obtain ⟨c, KA, kc, zs, e1, e2, e3⟩ := h2 i hi
  exact ⟨c, KA, kc, zs, e1, own_below e2 hb, e3⟩
theorem MkV.held {w W : World} {g B1 n : Nat} {L : Nat → Nat} (h : MkV w g B1 n L W n 0) : Mid g B1 w W ∧ HeldV W g n L := by
  obtain ⟨h1, ys, h2, h3, h4, h5, h6⟩ := h
  refine ⟨h1, ys, h2, fun i hi => ⟨fun j hj => h4 i j hi hj, ?_⟩⟩
  obtain ⟨KA, kc, zs, e1, e2, e3, e4⟩ := h3 i hi
  exact ⟨KA, kc, zs, e1, e2, e4 hi⟩
/-- The cells of a marked node. -/
theorem HeldV.at {W : World} {g n : Nat} {L : Nat → Nat} (h : HeldV W g n L) (t : Nat) (ht : t < n) : g < W.heap.size ∧ (∀ j, j < 13 → W.cell? ⟨g, t * 14 + j, none⟩ = (markL (kq L t))[j]?) ∧
    ∃ KA kc zs, W.cell? ⟨g, t * 14 + 13, none⟩ = some (.slice KA (L t) kc) ∧ W.ownsRow (g + 1) 2 1 (.slice KA (L t) kc) (L t) zs ∧ Marked zs (kq L t + 13) (L t) := by
  obtain ⟨ys, h2, h3⟩ := h
  obtain ⟨A', cap', e, _, hc⟩ := own_shape h2
  cases e
  obtain ⟨c, KA, kc, zs, e1, e2, e3⟩ := h3 t ht
  obtain ⟨g0, e0, _, hlt, _, _⟩ := hc (t * 14) (by omega)
  cases e0
  refine ⟨hlt, fun j hj => ?_, KA, kc, zs, ?_, e2, e3⟩
  · obtain ⟨g', e', _, _, d, f⟩ := hc (t * 14 + j) (by omega)
    cases e'
    rw [d]; exact c j hj
  · obtain ⟨g', e', _, _, d, f⟩ := hc (t * 14 + 13) (by omega)
    cases e'
    exact d.trans e1

theorem mk13 {zs : List Value} {k : Int} {m : Nat} (h : Marked zs (k + 1 + 1 + 1 + 1 + 1 + 1 + 1 + 1 + 1 + 1 + 1 + 1 + 1) m) : Marked zs (k + 13) m := by
  have e : k + 13 = k + 1 + 1 + 1 + 1 + 1 + 1 + 1 + 1 + 1 + 1 + 1 + 1 + 1 := by omega
  rw [e]; exact h
theorem mk13' {zs : List Value} {k : Int} {m : Nat} (h : Marked zs (k + 13) m) : Marked zs (k + 1 + 1 + 1 + 1 + 1 + 1 + 1 + 1 + 1 + 1 + 1 + 1 + 1) m := by
  have e : k + 13 = k + 1 + 1 + 1 + 1 + 1 + 1 + 1 + 1 + 1 + 1 + 1 + 1 + 1 := by omega
  rw [← e]; exact h
end Go.Proofs.YtpkmboohfomieaaGreatDoor
