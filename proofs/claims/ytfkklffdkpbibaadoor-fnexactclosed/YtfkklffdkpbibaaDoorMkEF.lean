import Derived.Test.YtfkklffdkpbibaaDoorMkD
namespace Go.Proofs.YtfkklffdkpbibaaDoor
open Go.RowKit
set_option linter.unusedSimpArgs false
set_option linter.unusedVariables false

set_option maxRecDepth 100000 in
set_option maxHeartbeats 4000000 in
theorem laws_heldFNodeSV {w : World} {g n : Nat} {L : Nat → Nat} (h : HeldV w g n L) (hn : n ≤ 1048576) (hL : ∀ i, i < n → L i ≤ 1048576) :
    Calls Tryd.prog 21 #[.slice (some ⟨g, 0, none⟩) n n, .int .i64 1] w fun e w' => e = .returned (.int .i64 (kq L n)) ∧ Below w.heap.size w w' := by
  have HM : Hid (HeldV w g n L) := h
  have HL : Hid (∀ i, i < n → L i ≤ 1048576) := hL
  clear h hL
  have hm3 : ∀ x : Int, (x % 3 == 0) = m3 x := fun _ => rfl
  go_enter Tryd.func21, Tryd.ntmps21
  go_wp2_with fail
  go_loopw [1, 5] (fun q i wr => ∃ t : Nat, t ≤ n ∧ i = .int .i64 t ∧ q = .int .i64 (kq L t) ∧ Below w.heap.size w wr) (fun _ i _ => n - (intOf i).toNat)
  case atStart => exact ⟨0, Nat.zero_le _, rfl, rfl, Below.refl _ _⟩
  case round =>
    obtain ⟨t, ht, rfl, rfl, hbel⟩ := hrel
    have HB : Hid (Below w.heap.size w wr) := hbel
    by_cases hlt : t < n
    · obtain ⟨hgs, hcs, KA, kc, zs, d13, ho, hmk⟩ := (HM.out.below hbel).at t hlt
      have d0 : wr.cell? ⟨g, t * 14, none⟩ = some (.int .i64 (kq L t)) := hcs 0 (by omega)
      have d1 : wr.cell? ⟨g, t * 14 + 1, none⟩ = some (.int .i64 (kq L t + 1)) := hcs 1 (by omega)
      have d2 : wr.cell? ⟨g, t * 14 + 2, none⟩ = some (.int .i64 (kq L t + 1 + 1)) := hcs 2 (by omega)
      have d3 : wr.cell? ⟨g, t * 14 + 2 + 1, none⟩ = some (.int .i64 (kq L t + 1 + 1 + 1)) := hcs 3 (by omega)
      have d4 : wr.cell? ⟨g, t * 14 + 2 + 2, none⟩ = some (.string (mtx (kq L t + 1 + 1 + 1 + 1))) := hcs 4 (by omega)
      have d5 : wr.cell? ⟨g, t * 14 + 5, none⟩ = some (.int .i64 (kq L t + 1 + 1 + 1 + 1 + 1)) := hcs 5 (by omega)
      have d6 : wr.cell? ⟨g, t * 14 + 5 + 1, none⟩ = some (.int .i64 (kq L t + 1 + 1 + 1 + 1 + 1 + 1)) := hcs 6 (by omega)
      have d7 : wr.cell? ⟨g, t * 14 + 5 + 2, none⟩ = some (.bool (m3 (kq L t + 1 + 1 + 1 + 1 + 1 + 1 + 1))) := hcs 7 (by omega)
      have d8 : wr.cell? ⟨g, t * 14 + 5 + 3, none⟩ = some (.bool (m3 (kq L t + 1 + 1 + 1 + 1 + 1 + 1 + 1 + 1))) := hcs 8 (by omega)
      have d9 : wr.cell? ⟨g, t * 14 + 9, none⟩ = some (.int .i64 (kq L t + 1 + 1 + 1 + 1 + 1 + 1 + 1 + 1 + 1)) := hcs 9 (by omega)
      have d10 : wr.cell? ⟨g, t * 14 + 9 + 1, none⟩ = some (.int .i64 (kq L t + 1 + 1 + 1 + 1 + 1 + 1 + 1 + 1 + 1 + 1)) := hcs 10 (by omega)
      have d11 : wr.cell? ⟨g, t * 14 + 9 + 2, none⟩ = some (.bool (m3 (kq L t + 1 + 1 + 1 + 1 + 1 + 1 + 1 + 1 + 1 + 1 + 1))) := hcs 11 (by omega)
      have d12 : wr.cell? ⟨g, t * 14 + 9 + 3, none⟩ = some (.bool (m3 (kq L t + 1 + 1 + 1 + 1 + 1 + 1 + 1 + 1 + 1 + 1 + 1 + 1))) := hcs 12 (by omega)
      have HO : Hid (wr.ownsRow (g + 1) 2 1 (.slice KA (L t) kc) (L t) zs) := ho
      have HMK : Hid (Marked zs (kq L t + 13) (L t)) := hmk
      have hkl := HL.out t hlt
      have hk1 := kq_le HL.out t (by omega)
      have hk0 := kq_pos L t
      have HKS : Hid (kq L (t + 1) = kq L t + 13 + (L t : Int)) := rfl
      clear hcs ho hmk hbel
      obtain ⟨k, HKT⟩ : ∃ k, Hid (kq L t = k) := ⟨_, rfl⟩
      obtain ⟨m, HLM⟩ : ∃ m, Hid (L t = m) := ⟨_, rfl⟩
      rw [HLM.out] at d13 hkl HKS HO HMK
      rw [HKT.out] at d0 d1 d2 d3 d4 d5 d6 d7 d8 d9 d10 d11 d12 hk1 hk0 HKS HMK
      rw [HKT.out]
      have q0 : (0 : Int) ≤ (t : Int) := by omega
      have q1 : (t : Int) < (n : Int) := by omega
      go_wp2_with fail
      go_region_held3 (fun w' => (∀ bq oq, bq < wr.heap.size → w'.cell? ⟨bq, oq, none⟩ = wr.cell? ⟨bq, oq, none⟩) ∧ wr.heap.size ≤ w'.heap.size ∧ Below wr.heap.size wr w')
        (exact sc_of (Nat.le_refl _) (by go_grown))
        (first
        | (go_at_call 39; refine (laws_markTextV _ _ (by omega) (by omega)).mono ?_; rintro e w1 ⟨rfl, hb⟩; obtain ⟨hk1, hz1⟩ := bframe (B := wr.heap.size) (X := wr) (by go_grown) (by go_size) hb; have hW1 : ∀ b o, b < wr.heap.size → w1.cell? ⟨b, o, none⟩ = wr.cell? ⟨b, o, none⟩ := (fun b o h => hk1.cell (p := ⟨b, o, none⟩) h); clear hb))
      all_goals go_wp2_with (go_at_call 47; refine (laws_heldInt64SV _ _ (own_below HO.out (by go_grown)) (mk13' HMK.out) hkl (by omega) (by omega)).mono ?_; rintro e w2 ⟨rfl, hb2⟩; have HB2 : Hid (Below w.heap.size w w2) := (bchain HB.out (bchain (by go_grown) hb2)); clear hb2)
      all_goals
        go_roundw
        case rel => exact ⟨t + 1, by omega, by go_num, by rw [HKS.out]; first | rfl | (congr 1; omega), HB2.out⟩
        case measure => simp [intOf]; omega
    · have q1 : ¬ (t : Int) < (n : Int) := by omega
      obtain rfl : t = n := by omega
      go_wp2_with fail
      go_ret
      exact ⟨rfl, hbel⟩
end Go.Proofs.YtfkklffdkpbibaaDoor
namespace Go.Proofs.YtfkklffdkpbibaaDoor
open Go.RowKit
set_option linter.unusedSimpArgs false
set_option linter.unusedVariables false

set_option maxRecDepth 100000 in
set_option maxHeartbeats 4000000 in
theorem laws_markFNodeSV {w : World} {g B1 n : Nat} {L : Nat → Nat} (h : MkV w g B1 n L w 0 0) (hg : g < B1) (hn : n ≤ 1048576) (hL : ∀ i, i < n → L i ≤ 1048576) :
    Calls Tryd.prog 16 #[.slice (some ⟨g, 0, none⟩) n n, .int .i64 1] w fun e w' => e = .returned (.int .i64 (kq L n)) ∧ Mid g B1 w w' ∧ HeldV w' g n L := by
  have HM : Hid (MkV w g B1 n L w 0 0) := h
  have HL : Hid (∀ i, i < n → L i ≤ 1048576) := hL
  clear h hL
  have hm3 : ∀ x : Int, (x % 3 == 0) = m3 x := fun _ => rfl
  go_enter Tryd.func16, Tryd.ntmps16
  go_wp2_with fail
  go_loopw [1, 5] (fun q i wr => ∃ t : Nat, t ≤ n ∧ i = .int .i64 t ∧ q = .int .i64 (kq L t) ∧ MkV w g B1 n L wr t 0) (fun _ i _ => n - (intOf i).toNat)
  case atStart => exact ⟨0, Nat.zero_le _, rfl, rfl, HM.out⟩
  case round =>
    clear HM
    obtain ⟨t, ht, rfl, rfl, hM⟩ := hrel
    have HM : Hid (MkV w g B1 n L wr t 0) := hM
    by_cases hlt : t < n
    · have hxwr := hM.cells hlt
      obtain ⟨x0, d0, f0⟩ : ∃ x, wr.cell? ⟨g, t * 14, none⟩ = some x ∧ wr.frozen? ⟨g, t * 14, none⟩ = false := hxwr 0 (by omega)
      obtain ⟨x1, d1, f1⟩ : ∃ x, wr.cell? ⟨g, t * 14 + 1, none⟩ = some x ∧ wr.frozen? ⟨g, t * 14 + 1, none⟩ = false := hxwr 1 (by omega)
      obtain ⟨x2, d2, f2⟩ : ∃ x, wr.cell? ⟨g, t * 14 + 2, none⟩ = some x ∧ wr.frozen? ⟨g, t * 14 + 2, none⟩ = false := hxwr 2 (by omega)
      obtain ⟨x3, d3, f3⟩ : ∃ x, wr.cell? ⟨g, t * 14 + 2 + 1, none⟩ = some x ∧ wr.frozen? ⟨g, t * 14 + 2 + 1, none⟩ = false := hxwr 3 (by omega)
      clear hxwr hM
      have hkl := HL.out t hlt
      have hk1 := kq_le HL.out t (by omega)
      have hk0 := kq_pos L t
      have HKS : Hid (kq L (t + 1) = kq L t + 13 + (L t : Int)) := rfl
      have q0 : (0 : Int) ≤ (t : Int) := by omega
      have q1 : (t : Int) < (n : Int) := by omega
      obtain ⟨k, HKT⟩ : ∃ k, Hid (kq L t = k) := ⟨_, rfl⟩
      have HE : ∀ (j : Nat) (u : Value), (markL k)[j]? = some u → (markL (kq L t))[j]? = some u := fun j u h => by rw [HKT.out]; exact h
      have HE' : Hid (∀ (j : Nat) (u : Value), (markL k)[j]? = some u → (markL (kq L t))[j]? = some u) := HE
      have HW4 : Hid (MkV w g B1 n L ((((wr.setCell ⟨g, t * 14, none⟩ (.int .i64 k)).setCell ⟨g, t * 14 + 1, none⟩ (.int .i64 (k + 1))).setCell ⟨g, t * 14 + 2, none⟩ (.int .i64 (k + 1 + 1))).setCell ⟨g, t * 14 + 2 + 1, none⟩ (.int .i64 (k + 1 + 1 + 1))) t 4) :=
        MkV.set 3 _ (MkV.set 2 _ (MkV.set 1 _ (MkV.set 0 _ (HM.out) (by omega) hlt hg (HE _ _ rfl)) (by omega) hlt hg (HE _ _ rfl)) (by omega) hlt hg (HE _ _ rfl)) (by omega) hlt hg (HE _ _ rfl)
      clear HM HE
      rw [HKT.out] at hk1 hk0 HKS
      rw [HKT.out]
      go_wp2_with fail
      refine (laws_markTextV _ _ (by omega) (by omega)).mono ?_
      rintro e w2 ⟨rfl, hb⟩
      have hM2 := HW4.out.below hb
      have HM2 : Hid (MkV w g B1 n L w2 t 4) := hM2
      clear hb HW4 d0 f0 d1 f1 d2 f2 d3 f3
      have hxw2 := hM2.cells hlt
      obtain ⟨x4, d4, f4⟩ : ∃ x, w2.cell? ⟨g, t * 14 + 2 + 2, none⟩ = some x ∧ w2.frozen? ⟨g, t * 14 + 2 + 2, none⟩ = false := hxw2 4 (by omega)
      obtain ⟨x5, d5, f5⟩ : ∃ x, w2.cell? ⟨g, t * 14 + 5, none⟩ = some x ∧ w2.frozen? ⟨g, t * 14 + 5, none⟩ = false := hxw2 5 (by omega)
      obtain ⟨x6, d6, f6⟩ : ∃ x, w2.cell? ⟨g, t * 14 + 5 + 1, none⟩ = some x ∧ w2.frozen? ⟨g, t * 14 + 5 + 1, none⟩ = false := hxw2 6 (by omega)
      obtain ⟨x7, d7, f7⟩ : ∃ x, w2.cell? ⟨g, t * 14 + 5 + 2, none⟩ = some x ∧ w2.frozen? ⟨g, t * 14 + 5 + 2, none⟩ = false := hxw2 7 (by omega)
      obtain ⟨x8, d8, f8⟩ : ∃ x, w2.cell? ⟨g, t * 14 + 5 + 3, none⟩ = some x ∧ w2.frozen? ⟨g, t * 14 + 5 + 3, none⟩ = false := hxw2 8 (by omega)
      obtain ⟨x9, d9, f9⟩ : ∃ x, w2.cell? ⟨g, t * 14 + 9, none⟩ = some x ∧ w2.frozen? ⟨g, t * 14 + 9, none⟩ = false := hxw2 9 (by omega)
      obtain ⟨x10, d10, f10⟩ : ∃ x, w2.cell? ⟨g, t * 14 + 9 + 1, none⟩ = some x ∧ w2.frozen? ⟨g, t * 14 + 9 + 1, none⟩ = false := hxw2 10 (by omega)
      obtain ⟨x11, d11, f11⟩ : ∃ x, w2.cell? ⟨g, t * 14 + 9 + 2, none⟩ = some x ∧ w2.frozen? ⟨g, t * 14 + 9 + 2, none⟩ = false := hxw2 11 (by omega)
      obtain ⟨x12, d12, f12⟩ : ∃ x, w2.cell? ⟨g, t * 14 + 9 + 3, none⟩ = some x ∧ w2.frozen? ⟨g, t * 14 + 9 + 3, none⟩ = false := hxw2 12 (by omega)
      have HW13 : Hid (MkV w g B1 n L ((((((((((w2.setCell ⟨g, t * 14 + 2 + 2, none⟩ (.string (mtx (k + 1 + 1 + 1 + 1)))).setCell ⟨g, t * 14 + 5, none⟩ (.int .i64 (k + 1 + 1 + 1 + 1 + 1))).setCell ⟨g, t * 14 + 5 + 1, none⟩ (.int .i64 (k + 1 + 1 + 1 + 1 + 1 + 1))).setCell ⟨g, t * 14 + 5 + 2, none⟩ (.bool (m3 (k + 1 + 1 + 1 + 1 + 1 + 1 + 1)))).setCell ⟨g, t * 14 + 5 + 3, none⟩ (.bool (m3 (k + 1 + 1 + 1 + 1 + 1 + 1 + 1 + 1)))).setCell ⟨g, t * 14 + 9, none⟩ (.int .i64 (k + 1 + 1 + 1 + 1 + 1 + 1 + 1 + 1 + 1))).setCell ⟨g, t * 14 + 9 + 1, none⟩ (.int .i64 (k + 1 + 1 + 1 + 1 + 1 + 1 + 1 + 1 + 1 + 1))).setCell ⟨g, t * 14 + 9 + 2, none⟩ (.bool (m3 (k + 1 + 1 + 1 + 1 + 1 + 1 + 1 + 1 + 1 + 1 + 1)))).setCell ⟨g, t * 14 + 9 + 3, none⟩ (.bool (m3 (k + 1 + 1 + 1 + 1 + 1 + 1 + 1 + 1 + 1 + 1 + 1 + 1))))) t 13) :=
        MkV.set 12 _ (MkV.set 11 _ (MkV.set 10 _ (MkV.set 9 _ (MkV.set 8 _ (MkV.set 7 _ (MkV.set 6 _ (MkV.set 5 _ (MkV.set 4 _ (HM2.out) (by omega) hlt hg (HE'.out _ _ rfl)) (by omega) hlt hg (HE'.out _ _ rfl)) (by omega) hlt hg (HE'.out _ _ rfl)) (by omega) hlt hg (HE'.out _ _ rfl)) (by omega) hlt hg (HE'.out _ _ rfl)) (by omega) hlt hg (HE'.out _ _ rfl)) (by omega) hlt hg (HE'.out _ _ rfl)) (by omega) hlt hg (HE'.out _ _ rfl)) (by omega) hlt hg (HE'.out _ _ rfl)
      clear hxw2 hM2 HM2
      obtain ⟨KA, kc, zs, d13, HKO, HKN⟩ := HW13.out.kid hlt
      have d13' : w2.cell? ⟨g, t * 14 + 13, none⟩ = some (.slice KA (L t) kc) := by
        rw [cell_set_ne (by omega), cell_set_ne (by omega), cell_set_ne (by omega), cell_set_ne (by omega), cell_set_ne (by omega), cell_set_ne (by omega), cell_set_ne (by omega), cell_set_ne (by omega), cell_set_ne (by omega)] at d13
        exact d13
      have HKO' : Hid (World.ownsRow _ _ _ _ _ _ _) := HKO
      have HKN' : Hid _ := HKN
      clear d13 HKO HKN HW13
      obtain ⟨m, HLM⟩ : ∃ m, Hid (L t = m) := ⟨_, rfl⟩
      rw [HLM.out] at d13' hkl HKO' HKN' HKS
      go_wp2_with fail
      refine (laws_markInt64SV _ _ HKO'.out hkl (by omega) (by omega)).mono ?_
      rintro e w3 ⟨rfl, ⟨zs', o', m'⟩, gr⟩
      have HM3 : Hid (MkV w g B1 n L w3 (t + 1) 0) := HKN'.out w3 zs' o' (by rw [HKT.out]; exact mk13 m') gr
      clear o' m' gr HKN' HKO'
      go_wp2_with fail
      go_roundw
      case rel => exact ⟨t + 1, by omega, by go_num, by rw [HKS.out]; first | rfl | (congr 1; omega), HM3.out⟩
      case measure => simp [intOf]; omega
    · have q1 : ¬ (t : Int) < (n : Int) := by omega
      obtain rfl : t = n := by omega
      clear hM
      go_wp2_with fail
      go_ret
      exact ⟨rfl, HM.out.held⟩

end Go.Proofs.YtfkklffdkpbibaaDoor
