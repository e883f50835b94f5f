import Derived.Test.YtpkmboohfomieaaGreatDoorGaz
import Derived.Test.YtpkmboohfomieaaGreatDoorGal
namespace Go.Proofs.YtpkmboohfomieaaGreatDoor
open Go.RowKit
set_option linter.unusedSimpArgs false
set_option linter.unusedVariables false

/-- A row of nodes of which t are marked, and of the next one q cells. -/
def MkW (B0 c : Nat) (w : World) (g B1 n : Nat) (L : Nat → Nat) (W : World) (t q : Nat) : Prop :=
  Mid B0 B1 w W ∧ ∃ ys, W.ownsRow B0 60 14 (.slice (some ⟨g, 0, none⟩) n c) n ys ∧
    (∀ i, i < n → ∃ KA kc zs, ys[i * 14 + 13]? = some (.slice KA (L i) kc) ∧ W.ownsRow B0 2 1 (.slice KA (L i) kc) (L i) zs ∧ (∀ b, (Value.slice KA (L i) kc).ownBlock = some b → b < B1) ∧ (i < t → Marked zs (kq L i + 13) (L i))) ∧
    (∀ i j, i < t → j < 13 → ys[i * 14 + j]? = (markL (kq L i))[j]?) ∧ (∀ j, j < q → ys[t * 14 + j]? = (markL (kq L t))[j]?) ∧ KDiff ys n
theorem MkW.below {w W W' : World} {B0 c g B1 n t q : Nat} {L : Nat → Nat} (h : MkW B0 c w g B1 n L W t q) (hb : Below W.heap.size W W') : MkW B0 c w g B1 n L W' t q := by
  obtain ⟨h1, ys, h2, h3, h4, h5, h6⟩ := h
  refine ⟨h1.below hb, ys, own_below h2 hb, fun i hi => ?_, h4, h5, h6⟩
  obtain ⟨KA, kc, zs, e1, e2, e3, e4⟩ := h3 i hi
  exact ⟨KA, kc, zs, e1, own_below e2 hb, e3, e4⟩
theorem MkW.set {w W : World} {B0 c g B1 n t : Nat} (q : Nat) {L : Nat → Nat} (u : Value) (h : MkW B0 c w g B1 n L W t q) (hq : q < 13) (ht : t < n) (hg : g < B1) (hu : (markL (kq L t))[q]? = some u) : MkW B0 c w g B1 n L (W.setCell ⟨g, t * 14 + q, none⟩ u) t (q + 1) := by
  obtain ⟨h1, ys, h2, h3, h4, h5, h6⟩ := h
  have hl := h2.1
  have hk : ∀ i, (ys.set (t * 14 + q) u)[i * 14 + 13]? = ys[i * 14 + 13]? := fun i => List.getElem?_set_ne (by omega)
  refine ⟨h1.set u (h2.lt g rfl).1 hg, _, (h2.stored (t * 14 + q) u).1, fun i hi => ?_, fun i j hi hj => ?_, fun j hj => ?_, fun i j hi hj hne b => ?_⟩
  · obtain ⟨KA, kc, zs, e1, e2, e3, e4⟩ := h3 i hi
    exact ⟨KA, kc, zs, (hk i).trans e1, e2.kept (gb_set W g _ u) (own_ne_typeR e2 h2 (by decide)), e3, e4⟩
  · rw [List.getElem?_set_ne (by omega)]; exact h4 i j hi hj
  · by_cases e : j = q
    · subst e; rw [List.getElem?_set_self (by omega)]; exact hu.symm
    · rw [List.getElem?_set_ne (by omega)]; exact h5 j (by omega)
  · unfold kblock; rw [hk i, hk j]; exact h6 i j hi hj hne b
theorem MkW.kid {w W : World} {B0 c g B1 n t : Nat} {L : Nat → Nat} (h : MkW B0 c w g B1 n L W t 13) (ht : t < n) :
    ∃ KA kc zs, W.cell? ⟨g, t * 14 + 13, none⟩ = some (.slice KA (L t) kc) ∧ W.ownsRow B0 2 1 (.slice KA (L t) kc) (L t) zs ∧
      ∀ W' zs', W'.ownsRow B0 2 1 (.slice KA (L t) kc) (L t) zs' → Marked zs' (kq L t + 13) (L t) → W.grownBy W' (Value.slice KA (L t) kc).ownBlock → MkW B0 c w g B1 n L W' (t + 1) 0 := by
  obtain ⟨h1, ys, h2, h3, h4, h5, h6⟩ := h
  obtain ⟨A', cap', e, _, hc⟩ := own_shape h2
  cases e
  obtain ⟨KA, kc, zs, e1, e2, e3, e4⟩ := h3 t ht
  obtain ⟨g', e', _, _, d, f⟩ := hc (t * 14 + 13) (by omega)
  cases e'
  refine ⟨KA, kc, zs, d.trans e1, e2, fun W' zs' o' m' gr => ?_⟩
  refine ⟨⟨gr.os.trans h1.os, gr.tape.trans h1.tape, gr.output.trans h1.output, Nat.le_trans h1.size gr.size, fun k hk hr => (gr.block k (Nat.lt_of_lt_of_le hk h1.size) (fun e => ?_)).trans (h1.block k hk hr)⟩, ys, h2.kept gr (own_ne_typeR h2 e2 (by decide)), fun i hi => ?_, fun i j hi hj => ?_, fun j hj => by omega, h6⟩
  · have a1 := (e2.lt k e.symm).1
    have a2 := e3 k e.symm
    omega
  · by_cases e : i = t
    · subst e
      exact ⟨KA, kc, zs', e1, o', e3, fun _ => m'⟩
    · obtain ⟨KB, kb, ys', q1, q2, q3, q4⟩ := h3 i hi
      refine ⟨KB, kb, ys', q1, q2.kept gr ?_, q3, fun hlt => q4 (by omega)⟩
      cases hv : (Value.slice KB (L i) kb).ownBlock with
      | none => exact Or.inl rfl
      | some b =>
        right
        intro e9
        refine h6 i t hi ht e b (by unfold kblock; rw [q1]; exact hv) (by unfold kblock; rw [e1]; exact e9.symm)
  · by_cases e : i = t
    · subst e; exact h5 j hj
    · exact h4 i j (by omega) hj
theorem MkW.cells {w W : World} {B0 c g B1 n t q : Nat} {L : Nat → Nat} (h : MkW B0 c w g B1 n L W t q) (ht : t < n) : ∀ j, j < 14 → ∃ x, W.cell? ⟨g, t * 14 + j, none⟩ = some x ∧ W.frozen? ⟨g, t * 14 + j, none⟩ = false := by
  obtain ⟨_, ys, h2, h3, _⟩ := h
  obtain ⟨A', cap', e, _, hc⟩ := own_shape h2
  cases e
  have hl := h2.1
  intro j hj
  obtain ⟨g', e', _, _, d, f⟩ := hc (t * 14 + j) (by omega)
  cases e'
  exact ⟨_, d.trans (List.getElem?_eq_getElem (by omega)), f⟩
/-- A row of nodes that are all marked. -/
def HeldW (B0 c : Nat) (W : World) (g n : Nat) (L : Nat → Nat) : Prop :=
  ∃ ys, W.ownsRow B0 60 14 (.slice (some ⟨g, 0, none⟩) n c) n ys ∧ ∀ i, i < n → (∀ j, j < 13 → ys[i * 14 + j]? = (markL (kq L i))[j]?) ∧
    ∃ KA kc zs, ys[i * 14 + 13]? = some (.slice KA (L i) kc) ∧ W.ownsRow B0 2 1 (.slice KA (L i) kc) (L i) zs ∧ Marked zs (kq L i + 13) (L i)
theorem HeldW.below {W W' : World} {B0 c g n : Nat} {L : Nat → Nat} (h : HeldW B0 c W g n L) (hb : Below W.heap.size W W') : HeldW B0 c W' g n L := by
  obtain ⟨ys, h1, h2⟩ := h
  refine ⟨ys, own_below h1 hb, fun i hi => ?_⟩
  obtain ⟨c, KA, kc, zs, e1, e2, e3⟩ := h2 i hi
  exact ⟨c, KA, kc, zs, e1, own_below e2 hb, e3⟩
theorem MkW.held {w W : World} {B0 c g B1 n : Nat} {L : Nat → Nat} (h : MkW B0 c w g B1 n L W n 0) : Mid B0 B1 w W ∧ HeldW B0 c W g n L := by
  obtain ⟨h1, ys, h2, h3, h4, h5, h6⟩ := h
  refine ⟨h1, ys, h2, fun i hi => ⟨fun j hj => h4 i j hi hj, ?_⟩⟩
  obtain ⟨KA, kc, zs, e1, e2, e3, e4⟩ := h3 i hi
  exact ⟨KA, kc, zs, e1, e2, e4 hi⟩
/-- The cells of a marked node. -/
theorem HeldW.at {W : World} {B0 c g n : Nat} {L : Nat → Nat} (h : HeldW B0 c W g n L) (t : Nat) (ht : t < n) : g < W.heap.size ∧ (∀ j, j < 13 → W.cell? ⟨g, t * 14 + j, none⟩ = (markL (kq L t))[j]?) ∧
    ∃ KA kc zs, W.cell? ⟨g, t * 14 + 13, none⟩ = some (.slice KA (L t) kc) ∧ W.ownsRow B0 2 1 (.slice KA (L t) kc) (L t) zs ∧ Marked zs (kq L t + 13) (L t) := by
  obtain ⟨ys, h2, h3⟩ := h
  obtain ⟨A', cap', e, _, hc⟩ := own_shape h2
  cases e
  obtain ⟨c, KA, kc, zs, e1, e2, e3⟩ := h3 t ht
  obtain ⟨g0, e0, _, hlt, _, _⟩ := hc (t * 14) (by omega)
  cases e0
  refine ⟨hlt, fun j hj => ?_, KA, kc, zs, ?_, e2, e3⟩
  · obtain ⟨g', e', _, _, d, f⟩ := hc (t * 14 + j) (by omega)
    cases e'
    rw [d]; exact c j hj
  · obtain ⟨g', e', _, _, d, f⟩ := hc (t * 14 + 13) (by omega)
    cases e'
    exact d.trans e1

end Go.Proofs.YtpkmboohfomieaaGreatDoor
namespace Go.Proofs.YtpkmboohfomieaaGreatDoor
open Go.RowKit
set_option linter.unusedSimpArgs false
set_option linter.unusedVariables false

set_option maxRecDepth 100000 in
set_option maxHeartbeats 4000000 in
theorem laws_heldFNodeSW {w : World} {B0 c g n : Nat} {L : Nat → Nat} (h : HeldW B0 c w g n L) (hn : n ≤ 1048576) (hL : ∀ i, i < n → L i ≤ 1048576) :
    Calls Tryz.prog 33 #[.slice (some ⟨g, 0, none⟩) n c, .int .i64 1] w fun e w' => e = .returned (.int .i64 (kq L n)) ∧ Below w.heap.size w w' := by
  have HM : Hid (HeldW B0 c w g n L) := h
  have HL : Hid (∀ i, i < n → L i ≤ 1048576) := hL
  clear h hL
  have hm3 : ∀ x : Int, (x % 3 == 0) = m3 x := fun _ => rfl
  go_enter Tryz.func33, Tryz.ntmps33
  go_wp2_with fail
  go_loopw [1, 5] (fun q i wr => ∃ t : Nat, t ≤ n ∧ i = .int .i64 t ∧ q = .int .i64 (kq L t) ∧ Below w.heap.size w wr) (fun _ i _ => n - (intOf i).toNat)
  case atStart => exact ⟨0, Nat.zero_le _, rfl, rfl, Below.refl _ _⟩
  case round =>
    obtain ⟨t, ht, rfl, rfl, hbel⟩ := hrel
    have HB : Hid (Below w.heap.size w wr) := hbel
    by_cases hlt : t < n
    · obtain ⟨hgs, hcs, KA, kc, zs, d13, ho, hmk⟩ := (HM.out.below hbel).at t hlt
      have d0 : wr.cell? ⟨g, t * 14, none⟩ = some (.int .i64 (kq L t)) := hcs 0 (by omega)
      have d1 : wr.cell? ⟨g, t * 14 + 1, none⟩ = some (.int .i64 (kq L t + 1)) := hcs 1 (by omega)
      have d2 : wr.cell? ⟨g, t * 14 + 2, none⟩ = some (.int .i64 (kq L t + 1 + 1)) := hcs 2 (by omega)
      have d3 : wr.cell? ⟨g, t * 14 + 2 + 1, none⟩ = some (.int .i64 (kq L t + 1 + 1 + 1)) := hcs 3 (by omega)
      have d4 : wr.cell? ⟨g, t * 14 + 2 + 2, none⟩ = some (.string (mtx (kq L t + 1 + 1 + 1 + 1))) := hcs 4 (by omega)
      have d5 : wr.cell? ⟨g, t * 14 + 5, none⟩ = some (.int .i64 (kq L t + 1 + 1 + 1 + 1 + 1)) := hcs 5 (by omega)
      have d6 : wr.cell? ⟨g, t * 14 + 5 + 1, none⟩ = some (.int .i64 (kq L t + 1 + 1 + 1 + 1 + 1 + 1)) := hcs 6 (by omega)
      have d7 : wr.cell? ⟨g, t * 14 + 5 + 2, none⟩ = some (.bool (m3 (kq L t + 1 + 1 + 1 + 1 + 1 + 1 + 1))) := hcs 7 (by omega)
      have d8 : wr.cell? ⟨g, t * 14 + 5 + 3, none⟩ = some (.bool (m3 (kq L t + 1 + 1 + 1 + 1 + 1 + 1 + 1 + 1))) := hcs 8 (by omega)
      have d9 : wr.cell? ⟨g, t * 14 + 9, none⟩ = some (.int .i64 (kq L t + 1 + 1 + 1 + 1 + 1 + 1 + 1 + 1 + 1)) := hcs 9 (by omega)
      have d10 : wr.cell? ⟨g, t * 14 + 9 + 1, none⟩ = some (.int .i64 (kq L t + 1 + 1 + 1 + 1 + 1 + 1 + 1 + 1 + 1 + 1)) := hcs 10 (by omega)
      have d11 : wr.cell? ⟨g, t * 14 + 9 + 2, none⟩ = some (.bool (m3 (kq L t + 1 + 1 + 1 + 1 + 1 + 1 + 1 + 1 + 1 + 1 + 1))) := hcs 11 (by omega)
      have d12 : wr.cell? ⟨g, t * 14 + 9 + 3, none⟩ = some (.bool (m3 (kq L t + 1 + 1 + 1 + 1 + 1 + 1 + 1 + 1 + 1 + 1 + 1 + 1))) := hcs 12 (by omega)
      have HO : Hid (wr.ownsRow B0 2 1 (.slice KA (L t) kc) (L t) zs) := ho
      have HMK : Hid (Marked zs (kq L t + 13) (L t)) := hmk
      have hkl := HL.out t hlt
      have hk1 := kq_le HL.out t (by omega)
      have hk0 := kq_pos L t
      have HKS : Hid (kq L (t + 1) = kq L t + 13 + (L t : Int)) := rfl
      clear hcs ho hmk hbel
      obtain ⟨k, HKT⟩ : ∃ k, Hid (kq L t = k) := ⟨_, rfl⟩
      obtain ⟨m, HLM⟩ : ∃ m, Hid (L t = m) := ⟨_, rfl⟩
      rw [HLM.out] at d13 hkl HKS HO HMK
      rw [HKT.out] at d0 d1 d2 d3 d4 d5 d6 d7 d8 d9 d10 d11 d12 hk1 hk0 HKS HMK
      rw [HKT.out]
      have q0 : (0 : Int) ≤ (t : Int) := by omega
      have q1 : (t : Int) < (n : Int) := by omega
      go_wp2_with fail
      go_region_held3 (fun w' => (∀ bq oq, bq < wr.heap.size → w'.cell? ⟨bq, oq, none⟩ = wr.cell? ⟨bq, oq, none⟩) ∧ wr.heap.size ≤ w'.heap.size ∧ Below wr.heap.size wr w')
        (exact sc_of (Nat.le_refl _) (by go_grown))
        (first
        | (go_at_call 76; refine (laws_markTextV _ _ (by omega) (by omega)).mono ?_; rintro e w1 ⟨rfl, hb⟩; obtain ⟨hk1, hz1⟩ := bframe (B := wr.heap.size) (X := wr) (by go_grown) (by go_size) hb; have hW1 : ∀ b o, b < wr.heap.size → w1.cell? ⟨b, o, none⟩ = wr.cell? ⟨b, o, none⟩ := (fun b o h => hk1.cell (p := ⟨b, o, none⟩) h); clear hb))
      all_goals go_wp2_with (go_at_call 78; refine (laws_heldInt64SV _ _ (own_below HO.out (by go_grown)) (mk13' HMK.out) hkl (by omega) (by omega)).mono ?_; rintro e w2 ⟨rfl, hb2⟩; have HB2 : Hid (Below w.heap.size w w2) := (bchain HB.out (bchain (by go_grown) hb2)); clear hb2)
      all_goals
        go_roundw
        case rel => exact ⟨t + 1, by omega, by go_num, by rw [HKS.out]; first | rfl | (congr 1; omega), HB2.out⟩
        case measure => simp [intOf]; omega
    · have q1 : ¬ (t : Int) < (n : Int) := by omega
      obtain rfl : t = n := by omega
      go_wp2_with fail
      go_ret
      exact ⟨rfl, hbel⟩
end Go.Proofs.YtpkmboohfomieaaGreatDoor
namespace Go.Proofs.YtpkmboohfomieaaGreatDoor
open Go.RowKit
set_option linter.unusedSimpArgs false
set_option linter.unusedVariables false

set_option maxRecDepth 100000 in
set_option maxHeartbeats 4000000 in
theorem laws_markFNodeSW {w : World} {B0 c g B1 n : Nat} {L : Nat → Nat} (h : MkW B0 c w g B1 n L w 0 0) (hg : g < B1) (hn : n ≤ 1048576) (hL : ∀ i, i < n → L i ≤ 1048576) :
    Calls Tryz.prog 32 #[.slice (some ⟨g, 0, none⟩) n c, .int .i64 1] w fun e w' => e = .returned (.int .i64 (kq L n)) ∧ Mid B0 B1 w w' ∧ HeldW B0 c w' g n L := by
  have HM : Hid (MkW B0 c w g B1 n L w 0 0) := h
  have HL : Hid (∀ i, i < n → L i ≤ 1048576) := hL
  clear h hL
  have hm3 : ∀ x : Int, (x % 3 == 0) = m3 x := fun _ => rfl
  go_enter Tryz.func32, Tryz.ntmps32
  go_wp2_with fail
  go_loopw [1, 5] (fun q i wr => ∃ t : Nat, t ≤ n ∧ i = .int .i64 t ∧ q = .int .i64 (kq L t) ∧ MkW B0 c w g B1 n L wr t 0) (fun _ i _ => n - (intOf i).toNat)
  case atStart => exact ⟨0, Nat.zero_le _, rfl, rfl, HM.out⟩
  case round =>
    clear HM
    obtain ⟨t, ht, rfl, rfl, hM⟩ := hrel
    have HM : Hid (MkW B0 c w g B1 n L wr t 0) := hM
    by_cases hlt : t < n
    · have hxwr := hM.cells hlt
      obtain ⟨x0, d0, f0⟩ : ∃ x, wr.cell? ⟨g, t * 14, none⟩ = some x ∧ wr.frozen? ⟨g, t * 14, none⟩ = false := hxwr 0 (by omega)
      obtain ⟨x1, d1, f1⟩ : ∃ x, wr.cell? ⟨g, t * 14 + 1, none⟩ = some x ∧ wr.frozen? ⟨g, t * 14 + 1, none⟩ = false := hxwr 1 (by omega)
      obtain ⟨x2, d2, f2⟩ : ∃ x, wr.cell? ⟨g, t * 14 + 2, none⟩ = some x ∧ wr.frozen? ⟨g, t * 14 + 2, none⟩ = false := hxwr 2 (by omega)
      obtain ⟨x3, d3, f3⟩ : ∃ x, wr.cell? ⟨g, t * 14 + 2 + 1, none⟩ = some x ∧ wr.frozen? ⟨g, t * 14 + 2 + 1, none⟩ = false := hxwr 3 (by omega)
      clear hxwr hM
      have hkl := HL.out t hlt
      have hk1 := kq_le HL.out t (by omega)
      have hk0 := kq_pos L t
      have HKS : Hid (kq L (t + 1) = kq L t + 13 + (L t : Int)) := rfl
      have q0 : (0 : Int) ≤ (t : Int) := by omega
      have q1 : (t : Int) < (n : Int) := by omega
      obtain ⟨k, HKT⟩ : ∃ k, Hid (kq L t = k) := ⟨_, rfl⟩
      have HE : ∀ (j : Nat) (u : Value), (markL k)[j]? = some u → (markL (kq L t))[j]? = some u := fun j u h => by rw [HKT.out]; exact h
      have HE' : Hid (∀ (j : Nat) (u : Value), (markL k)[j]? = some u → (markL (kq L t))[j]? = some u) := HE
      have HW4 : Hid (MkW B0 c w g B1 n L ((((wr.setCell ⟨g, t * 14, none⟩ (.int .i64 k)).setCell ⟨g, t * 14 + 1, none⟩ (.int .i64 (k + 1))).setCell ⟨g, t * 14 + 2, none⟩ (.int .i64 (k + 1 + 1))).setCell ⟨g, t * 14 + 2 + 1, none⟩ (.int .i64 (k + 1 + 1 + 1))) t 4) :=
        MkW.set 3 _ (MkW.set 2 _ (MkW.set 1 _ (MkW.set 0 _ (HM.out) (by omega) hlt hg (HE _ _ rfl)) (by omega) hlt hg (HE _ _ rfl)) (by omega) hlt hg (HE _ _ rfl)) (by omega) hlt hg (HE _ _ rfl)
      clear HM HE
      rw [HKT.out] at hk1 hk0 HKS
      rw [HKT.out]
      go_wp2_with fail
      refine (laws_markTextV _ _ (by omega) (by omega)).mono ?_
      rintro e w2 ⟨rfl, hb⟩
      have hM2 := HW4.out.below hb
      have HM2 : Hid (MkW B0 c w g B1 n L w2 t 4) := hM2
      clear hb HW4 d0 f0 d1 f1 d2 f2 d3 f3
      have hxw2 := hM2.cells hlt
      obtain ⟨x4, d4, f4⟩ : ∃ x, w2.cell? ⟨g, t * 14 + 2 + 2, none⟩ = some x ∧ w2.frozen? ⟨g, t * 14 + 2 + 2, none⟩ = false := hxw2 4 (by omega)
      obtain ⟨x5, d5, f5⟩ : ∃ x, w2.cell? ⟨g, t * 14 + 5, none⟩ = some x ∧ w2.frozen? ⟨g, t * 14 + 5, none⟩ = false := hxw2 5 (by omega)
      obtain ⟨x6, d6, f6⟩ : ∃ x, w2.cell? ⟨g, t * 14 + 5 + 1, none⟩ = some x ∧ w2.frozen? ⟨g, t * 14 + 5 + 1, none⟩ = false := hxw2 6 (by omega)
      obtain ⟨x7, d7, f7⟩ : ∃ x, w2.cell? ⟨g, t * 14 + 5 + 2, none⟩ = some x ∧ w2.frozen? ⟨g, t * 14 + 5 + 2, none⟩ = false := hxw2 7 (by omega)
      obtain ⟨x8, d8, f8⟩ : ∃ x, w2.cell? ⟨g, t * 14 + 5 + 3, none⟩ = some x ∧ w2.frozen? ⟨g, t * 14 + 5 + 3, none⟩ = false := hxw2 8 (by omega)
      obtain ⟨x9, d9, f9⟩ : ∃ x, w2.cell? ⟨g, t * 14 + 9, none⟩ = some x ∧ w2.frozen? ⟨g, t * 14 + 9, none⟩ = false := hxw2 9 (by omega)
      obtain ⟨x10, d10, f10⟩ : ∃ x, w2.cell? ⟨g, t * 14 + 9 + 1, none⟩ = some x ∧ w2.frozen? ⟨g, t * 14 + 9 + 1, none⟩ = false := hxw2 10 (by omega)
      obtain ⟨x11, d11, f11⟩ : ∃ x, w2.cell? ⟨g, t * 14 + 9 + 2, none⟩ = some x ∧ w2.frozen? ⟨g, t * 14 + 9 + 2, none⟩ = false := hxw2 11 (by omega)
      obtain ⟨x12, d12, f12⟩ : ∃ x, w2.cell? ⟨g, t * 14 + 9 + 3, none⟩ = some x ∧ w2.frozen? ⟨g, t * 14 + 9 + 3, none⟩ = false := hxw2 12 (by omega)
      have HW13 : Hid (MkW B0 c w g B1 n L ((((((((((w2.setCell ⟨g, t * 14 + 2 + 2, none⟩ (.string (mtx (k + 1 + 1 + 1 + 1)))).setCell ⟨g, t * 14 + 5, none⟩ (.int .i64 (k + 1 + 1 + 1 + 1 + 1))).setCell ⟨g, t * 14 + 5 + 1, none⟩ (.int .i64 (k + 1 + 1 + 1 + 1 + 1 + 1))).setCell ⟨g, t * 14 + 5 + 2, none⟩ (.bool (m3 (k + 1 + 1 + 1 + 1 + 1 + 1 + 1)))).setCell ⟨g, t * 14 + 5 + 3, none⟩ (.bool (m3 (k + 1 + 1 + 1 + 1 + 1 + 1 + 1 + 1)))).setCell ⟨g, t * 14 + 9, none⟩ (.int .i64 (k + 1 + 1 + 1 + 1 + 1 + 1 + 1 + 1 + 1))).setCell ⟨g, t * 14 + 9 + 1, none⟩ (.int .i64 (k + 1 + 1 + 1 + 1 + 1 + 1 + 1 + 1 + 1 + 1))).setCell ⟨g, t * 14 + 9 + 2, none⟩ (.bool (m3 (k + 1 + 1 + 1 + 1 + 1 + 1 + 1 + 1 + 1 + 1 + 1)))).setCell ⟨g, t * 14 + 9 + 3, none⟩ (.bool (m3 (k + 1 + 1 + 1 + 1 + 1 + 1 + 1 + 1 + 1 + 1 + 1 + 1))))) t 13) :=
        MkW.set 12 _ (MkW.set 11 _ (MkW.set 10 _ (MkW.set 9 _ (MkW.set 8 _ (MkW.set 7 _ (MkW.set 6 _ (MkW.set 5 _ (MkW.set 4 _ (HM2.out) (by omega) hlt hg (HE'.out _ _ rfl)) (by omega) hlt hg (HE'.out _ _ rfl)) (by omega) hlt hg (HE'.out _ _ rfl)) (by omega) hlt hg (HE'.out _ _ rfl)) (by omega) hlt hg (HE'.out _ _ rfl)) (by omega) hlt hg (HE'.out _ _ rfl)) (by omega) hlt hg (HE'.out _ _ rfl)) (by omega) hlt hg (HE'.out _ _ rfl)) (by omega) hlt hg (HE'.out _ _ rfl)
      clear hxw2 hM2 HM2
      obtain ⟨KA, kc, zs, d13, HKO, HKN⟩ := HW13.out.kid hlt
      have d13' : w2.cell? ⟨g, t * 14 + 13, none⟩ = some (.slice KA (L t) kc) := by
        rw [cell_set_ne (by omega), cell_set_ne (by omega), cell_set_ne (by omega), cell_set_ne (by omega), cell_set_ne (by omega), cell_set_ne (by omega), cell_set_ne (by omega), cell_set_ne (by omega), cell_set_ne (by omega)] at d13
        exact d13
      have HKO' : Hid (World.ownsRow _ _ _ _ _ _ _) := HKO
      have HKN' : Hid _ := HKN
      clear d13 HKO HKN HW13
      obtain ⟨m, HLM⟩ : ∃ m, Hid (L t = m) := ⟨_, rfl⟩
      rw [HLM.out] at d13' hkl HKO' HKN' HKS
      go_wp2_with fail
      refine (laws_markInt64SV _ _ HKO'.out hkl (by omega) (by omega)).mono ?_
      rintro e w3 ⟨rfl, ⟨zs', o', m'⟩, gr⟩
      have HM3 : Hid (MkW B0 c w g B1 n L w3 (t + 1) 0) := HKN'.out w3 zs' o' (by rw [HKT.out]; exact mk13 m') gr
      clear o' m' gr HKN' HKO'
      go_wp2_with fail
      go_roundw
      case rel => exact ⟨t + 1, by omega, by go_num, by rw [HKS.out]; first | rfl | (congr 1; omega), HM3.out⟩
      case measure => simp [intOf]; omega
    · have q1 : ¬ (t : Int) < (n : Int) := by omega
      obtain rfl : t = n := by omega
      clear hM
      go_wp2_with fail
      go_ret
      exact ⟨rfl, HM.out.held⟩

end Go.Proofs.YtpkmboohfomieaaGreatDoor
