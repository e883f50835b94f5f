import Derived.Test.YtnjladjkndblfaaDg
namespace Go.Proofs.Ytnjladjkndblfaa
open Go.RowKit
set_option linter.unusedSimpArgs false
set_option linter.unusedVariables false

/-- A Dag lies in a block. -/
def LocAt (W : World) (l : Nat) (n : Int) (v b : Nat) : Prop :=
  l < W.heap.size ∧ W.cell? ⟨l, 0, none⟩ = some (.int .i64 n) ∧ W.cell? ⟨l, 1, none⟩ = some (.slice (some ⟨v, 0, none⟩) 1 1) ∧ W.cell? ⟨l, 2, none⟩ = some (.slice (some ⟨b, 0, none⟩) 1 1)
theorem LocAt.below {W W' : World} {l : Nat} {n : Int} {v b : Nat} (h : LocAt W l n v b) (hb : Below W.heap.size W W') : LocAt W' l n v b := by
  obtain ⟨hl, c0, c1, c2⟩ := h
  exact ⟨Nat.lt_of_lt_of_le hl hb.size, (hb.cell (p := ⟨l, _, none⟩) hl).trans c0, (hb.cell (p := ⟨l, _, none⟩) hl).trans c1, (hb.cell (p := ⟨l, _, none⟩) hl).trans c2⟩
theorem LocAt.off {W W' : World} {l : Nat} {n : Int} {v b x y : Nat} (h : LocAt W l n v b) (hb : OffTwo W W' x y) (h1 : l ≠ x) (h2 : l ≠ y) : LocAt W' l n v b := by
  obtain ⟨hl, c0, c1, c2⟩ := h
  exact ⟨Nat.lt_of_lt_of_le hl hb.2.1, (hb.1 l _ hl h1 h2).trans c0, (hb.1 l _ hl h1 h2).trans c1, (hb.1 l _ hl h1 h2).trans c2⟩
theorem LocAt.new (W : World) (n : Int) (v b : Nat) (t : TypeId) : LocAt (W.alloc (.cells #[.int .i64 n, .slice (some ⟨v, 0, none⟩) 1 1, .slice (some ⟨b, 0, none⟩) 1 1] t)) W.heap.size n v b := by
  refine ⟨by simp, ?_, ?_, ?_⟩ <;> simp [go_sem]

set_option maxHeartbeats 8000000 in
theorem law_FnExactDagNew (w : World) : Calls Try.prog 3 #[] w fun e w' => e = .returned (.bool true) ∧ Below w.heap.size w w' := by
  go_enter Try.func3, Try.ntmps3
  go_wp2_with fail
  refine (spec_DagNew _).mono ?_
  rintro e u1 ⟨v0, b0, rfl, l1, l2, ne0, hv0, hb0, k1⟩
  have V0 : Hid (VerAt u1 v0 1 ∧ BraAt u1 b0 mainB 1) := ⟨hv0, hb0⟩
  have K1 : Hid (Below w.heap.size w u1) := k1
  clear hv0 hb0 k1 l1 l2 ne0
  go_wp2_with fail
  have HA : Hid (Below u1.heap.size u1 (u1.alloc (.cells #[.int .i64 2, .slice (some ⟨v0, 0, none⟩) 1 1, .slice (some ⟨b0, 0, none⟩) 1 1] 25))) := (Below.refl _ _).alloc (Nat.le_refl _) _
  have L0 : Hid (LocAt (u1.alloc (.cells #[.int .i64 2, .slice (some ⟨v0, 0, none⟩) 1 1, .slice (some ⟨b0, 0, none⟩) 1 1] 25)) u1.heap.size 2 v0 b0) := LocAt.new _ _ _ _ _
  generalize (u1.alloc (.cells #[.int .i64 2, .slice (some ⟨v0, 0, none⟩) 1 1, .slice (some ⟨b0, 0, none⟩) 1 1] 25)) = u2 at *
  have K2 : Hid (Below w.heap.size w u2) := bchain K1.out HA.out
  have V02 : Hid (VerAt u2 v0 1 ∧ BraAt u2 b0 mainB 1) := ⟨V0.out.1.below HA.out V0.out.1.1, V0.out.2.below HA.out V0.out.2.1⟩
  clear V0 HA K1
  refine (impl_DagNew _).mono ?_
  rintro e u3 ⟨v1, b1, rfl, l3, l4, ne1, hv1, hb1, k3⟩
  have V13 : Hid (VerAt u3 v1 1 ∧ BraAt u3 b1 mainB 1) := ⟨hv1, hb1⟩
  have N1 : Hid (u2.heap.size ≤ v1 ∧ u2.heap.size ≤ b1 ∧ v1 ≠ b1) := ⟨l3, l4, ne1⟩
  have V03 : Hid (VerAt u3 v0 1 ∧ BraAt u3 b0 mainB 1) := ⟨V02.out.1.below k3 V02.out.1.1, V02.out.2.below k3 V02.out.2.1⟩
  have Z0 : Hid (v0 < u2.heap.size ∧ b0 < u2.heap.size ∧ u1.heap.size < u2.heap.size) := ⟨V02.out.1.1, V02.out.2.1, L0.out.1⟩
  have L03 : Hid (LocAt u3 u1.heap.size 2 v0 b0) := L0.out.below k3
  have K3 : Hid (Below w.heap.size w u3) := bchain K2.out k3
  clear hv1 hb1 k3 V02 L0 l3 l4 ne1
  have W0 : Hid (w.heap.size ≤ u2.heap.size) := K2.out.size
  clear K2
  have HL : u1.heap.size ≤ u3.heap.size := Nat.le_of_lt L03.out.1
  obtain ⟨q0, q1, q2, q3⟩ := L03.out
  go_wp2_with fail
  have HA : Hid (Below u3.heap.size u3 (u3.alloc (.cells #[.int .i64 2, .slice (some ⟨v1, 0, none⟩) 1 1, .slice (some ⟨b1, 0, none⟩) 1 1] 25))) := (Below.refl _ _).alloc (Nat.le_refl _) _
  have L1 : Hid (LocAt (u3.alloc (.cells #[.int .i64 2, .slice (some ⟨v1, 0, none⟩) 1 1, .slice (some ⟨b1, 0, none⟩) 1 1] 25)) u3.heap.size 2 v1 b1) := LocAt.new _ _ _ _ _
  generalize (u3.alloc (.cells #[.int .i64 2, .slice (some ⟨v1, 0, none⟩) 1 1, .slice (some ⟨b1, 0, none⟩) 1 1] 25)) = u4 at *
  have K4 : Hid (Below w.heap.size w u4) := bchain K3.out HA.out
  have V04 : Hid (VerAt u4 v0 1 ∧ BraAt u4 b0 mainB 1) := ⟨V03.out.1.below HA.out V03.out.1.1, V03.out.2.below HA.out V03.out.2.1⟩
  have V14 : Hid (VerAt u4 v1 1 ∧ BraAt u4 b1 mainB 1) := ⟨V13.out.1.below HA.out V13.out.1.1, V13.out.2.below HA.out V13.out.2.1⟩
  have L04 : Hid (LocAt u4 u1.heap.size 2 v0 b0) := L03.out.below HA.out
  have Z1 : Hid (v1 < u3.heap.size ∧ b1 < u3.heap.size) := ⟨V13.out.1.1, V13.out.2.1⟩
  clear V03 V13 L03 HA K3 q0 q1 q2 q3
  refine (laws_eqDag_one 2 1 1 mainB _ _ _ _ _ V14.out.1 V14.out.2 V04.out.1 V04.out.2).mono ?_
  rintro e u5 ⟨rfl, k5⟩
  have K5 : Hid (Below w.heap.size w u5) := bchain K4.out k5
  have V05 : Hid (VerAt u5 v0 1 ∧ BraAt u5 b0 mainB 1) := ⟨V04.out.1.below k5 V04.out.1.1, V04.out.2.below k5 V04.out.2.1⟩
  have V15 : Hid (VerAt u5 v1 1 ∧ BraAt u5 b1 mainB 1) := ⟨V14.out.1.below k5 V14.out.1.1, V14.out.2.below k5 V14.out.2.1⟩
  have L05 : Hid (LocAt u5 u1.heap.size 2 v0 b0) := L04.out.below k5
  have L15 : Hid (LocAt u5 u3.heap.size 2 v1 b1) := L1.out.below k5
  clear K4 V04 V14 L04 L1 k5
  obtain ⟨q0, q1, q2, q3⟩ := L15.out
  go_wp2_with fail
  refine (laws_markDag_one 2 1 1 mainB _ _ _ N1.out.2.2 V15.out.1 V15.out.2).mono ?_
  rintro e u6 ⟨rfl, hv6, hb6, ho⟩
  have B6 : Hid (Below u2.heap.size u5 u6) := ho.2.2 u2.heap.size N1.out.1 N1.out.2.1 (by have := K5.out.size; have h1 := Z1.out.1; have h2 := N1.out.1; have h3 := L15.out.1; omega)
  have K6 : Hid (Below w.heap.size w u6) := K5.out.trans (B6.out.mono W0.out)
  have V06 : Hid (VerAt u6 v0 1 ∧ BraAt u6 b0 mainB 1) := ⟨V05.out.1.below B6.out Z0.out.1, V05.out.2.below B6.out Z0.out.2.1⟩
  have V16 : Hid (VerAt u6 v1 1 ∧ BraAt u6 b1 (mtx 2) 3) := ⟨hv6, hb6⟩
  have L06 : Hid (LocAt u6 u1.heap.size 2 v0 b0) := L05.out.off ho (by have := N1.out.1; have := Z0.out.2.2; omega) (by have := N1.out.2.1; have := Z0.out.2.2; omega)
  have L16 : Hid (LocAt u6 u3.heap.size 2 v1 b1) := L15.out.off ho (by have := Z1.out.1; omega) (by have := Z1.out.2; omega)
  clear hv6 hb6 ho B6 K5 V05 V15 L05 L15 q0 q1 q2 q3
  obtain ⟨q0, q1, q2, q3⟩ := L16.out
  go_wp2_with fail
  refine (laws_heldDag_one 2 _ _ _ V16.out.1 V16.out.2).mono ?_
  rintro e u7 ⟨rfl, k7⟩
  have K7 : Hid (Below w.heap.size w u7) := bchain K6.out k7
  have V07 : Hid (VerAt u7 v0 1 ∧ BraAt u7 b0 mainB 1) := ⟨V06.out.1.below k7 V06.out.1.1, V06.out.2.below k7 V06.out.2.1⟩
  have V17 : Hid (VerAt u7 v1 1 ∧ BraAt u7 b1 (mtx 2) 3) := ⟨V16.out.1.below k7 V16.out.1.1, V16.out.2.below k7 V16.out.2.1⟩
  have L07 : Hid (LocAt u7 u1.heap.size 2 v0 b0) := L06.out.below k7
  have L17 : Hid (LocAt u7 u3.heap.size 2 v1 b1) := L16.out.below k7
  clear K6 V06 V16 L06 L16 k7 q0 q1 q2 q3
  go_wp2_with fail
  refine (impl_DagNew _).mono ?_
  rintro e u8 ⟨v2, b2, rfl, l3, l4, ne1, hv1, hb1, k3⟩
  have V28 : Hid (VerAt u8 v2 1 ∧ BraAt u8 b2 mainB 1) := ⟨hv1, hb1⟩
  have K8 : Hid (Below w.heap.size w u8) := bchain K7.out k3
  have V08 : Hid (VerAt u8 v0 1 ∧ BraAt u8 b0 mainB 1) := ⟨V07.out.1.below k3 V07.out.1.1, V07.out.2.below k3 V07.out.2.1⟩
  have V18 : Hid (VerAt u8 v1 1 ∧ BraAt u8 b1 (mtx 2) 3) := ⟨V17.out.1.below k3 V17.out.1.1, V17.out.2.below k3 V17.out.2.1⟩
  have L08 : Hid (LocAt u8 u1.heap.size 2 v0 b0) := L07.out.below k3
  have L18 : Hid (LocAt u8 u3.heap.size 2 v1 b1) := L17.out.below k3
  clear hv1 hb1 k3 K7 V07 V17 L07 L17 l3 l4 ne1
  obtain ⟨q0, q1, q2, q3⟩ := L08.out
  go_wp2_with fail
  have HA : Hid (Below u8.heap.size u8 (u8.alloc (.cells #[.int .i64 2, .slice (some ⟨v2, 0, none⟩) 1 1, .slice (some ⟨b2, 0, none⟩) 1 1] 25))) := (Below.refl _ _).alloc (Nat.le_refl _) _
  generalize (u8.alloc (.cells #[.int .i64 2, .slice (some ⟨v2, 0, none⟩) 1 1, .slice (some ⟨b2, 0, none⟩) 1 1] 25)) = u9 at *
  have K9 : Hid (Below w.heap.size w u9) := bchain K8.out HA.out
  refine (laws_eqDag_one 2 1 1 mainB _ _ _ _ _ (V28.out.1.below HA.out V28.out.1.1) (V28.out.2.below HA.out V28.out.2.1) (V08.out.1.below HA.out V08.out.1.1) (V08.out.2.below HA.out V08.out.2.1)).mono ?_
  rintro e u10 ⟨rfl, k10⟩
  have B10 : Hid (Below u8.heap.size u8 u10) := bchain HA.out k10
  have K10 : Hid (Below w.heap.size w u10) := bchain K8.out B10.out
  have V110 : Hid (VerAt u10 v1 1 ∧ BraAt u10 b1 (mtx 2) 3) := ⟨V18.out.1.below B10.out V18.out.1.1, V18.out.2.below B10.out V18.out.2.1⟩
  have L110 : Hid (LocAt u10 u3.heap.size 2 v1 b1) := L18.out.below B10.out
  clear HA k10 K8 K9 V08 V18 V28 L08 L18 q0 q1 q2 q3 B10
  obtain ⟨q0, q1, q2, q3⟩ := L110.out
  go_wp2_with fail
  refine (laws_heldDag_one 2 _ _ _ V110.out.1 V110.out.2).mono ?_
  rintro e u11 ⟨rfl, k11⟩
  have K11 : Hid (Below w.heap.size w u11) := bchain K10.out k11
  clear k11 q0 q1 q2 q3
  go_wp2_with fail
  go_ret
  exact ⟨rfl, K11.out⟩
end Go.Proofs.Ytnjladjkndblfaa
