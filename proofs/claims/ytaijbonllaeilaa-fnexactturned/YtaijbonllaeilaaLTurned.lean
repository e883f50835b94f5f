import Derived.Test.YtaijbonllaeilaaChC
import Derived.Test.YtaijbonllaeilaaChE
namespace Go.Proofs.Ytaijbonllaeilaa
open Go.RowKit
set_option linter.unusedSimpArgs false
set_option linter.unusedVariables false

theorem own_ne {W W' : World} {B B' : Nat} {e e' : TypeId} {s s' n n' : Nat} {v v' : Value} {xs xs' : List Value} (h : W.ownsRow B e s v n xs) (h' : W'.ownsRow B' e' s' v' n' xs') (hb : W.heap.size ≤ B') : v.ownBlock = none ∨ v.ownBlock ≠ v'.ownBlock := by
  cases hv : v.ownBlock with
  | none => exact Or.inl rfl
  | some g =>
    right
    intro e
    have h1 := (h.lt g hv).2
    have h2 := (h'.lt g e.symm).1
    omega
theorem own_ne' {W W' : World} {B B' : Nat} {e e' : TypeId} {s s' n n' : Nat} {v v' : Value} {xs xs' : List Value} (h : W.ownsRow B e s v n xs) (h' : W'.ownsRow B' e' s' v' n' xs') (hb : W'.heap.size ≤ B) : v.ownBlock = none ∨ v.ownBlock ≠ v'.ownBlock := by
  cases hv : v.ownBlock with
  | none => exact Or.inl rfl
  | some g =>
    right
    intro e
    have h1 := (h.lt g hv).1
    have h2 := (h'.lt g e.symm).2
    omega
theorem mtGo_size (m : Nat) : ∀ s : ByteArray, (mtGo m s).size ≤ s.size + m := by
  induction m using Nat.strongRecOn with
  | ind m ih =>
    intro s
    by_cases h : m = 0
    · subst h; rw [mtGo_zero]; omega
    · rw [mtGo_step h]
      have h1 := ih (m / 10) (by omega) ((⟨#[48 + UInt8.ofNat (m % 10)]⟩ : ByteArray) ++ s)
      rw [ByteArray.size_append] at h1
      have h2 : (⟨#[48 + UInt8.ofNat (m % 10)]⟩ : ByteArray).size = 1 := rfl
      omega
theorem mtx_size {k : Int} (h : k ≤ 1099511627776000) : (mtx k).size ≤ maxLen := by
  unfold mtx
  rw [ByteArray.size_append]
  have h1 := mtGo_size k.toNat ⟨#[]⟩
  have h2 : (⟨#[109]⟩ : ByteArray).size = 1 := rfl
  have h3 : (⟨#[]⟩ : ByteArray).size = 0 := rfl
  unfold maxLen
  omega
theorem mkD_size {n : Nat} (hn : n ≤ 1048576) : ∀ i, i < n → (mkD i).f.size ≤ maxLen ∧ (mkD i).t.size ≤ maxLen := fun i hi => by
  unfold mkD mkC
  exact ⟨mtx_size (by omega), mtx_size (by omega)⟩
theorem rev_size {n : Nat} {D : Nat → CH} (h : ∀ i, i < n → (D i).f.size ≤ maxLen ∧ (D i).t.size ≤ maxLen) : ∀ i, i < n → (revCh n D i).f.size ≤ maxLen ∧ (revCh n D i).t.size ≤ maxLen := fun i hi => by
  have := h (n - 1 - i) (by omega)
  exact ⟨this.2, this.1⟩
theorem ChRow.sizes {W : World} {A : Option Addr} {n : Nat} {D : Nat → CH} (h : ChRow W A n D) : ∀ i, i < n → (D i).f.size ≤ maxLen ∧ (D i).t.size ≤ maxLen := fun i hi => by
  obtain ⟨b, o, e, hl, c0, c1, c2, c3, hs, ht⟩ := h.2 i hi
  exact ⟨hs, ht⟩

set_option maxHeartbeats 8000000 in
theorem law_FnExactTurned (A : Option Addr) (n cap : Nat) (D : Nat → CH) (w : World) (h : ChRow w A n D) : Calls Try.prog 3 #[.slice A n cap] w fun e w' =>
    e = .returned (.bool true) ∧ Below w.heap.size w w' := by
  have HR : Hid (ChRow w A n D) := h
  have HS : Hid (∀ i, i < n → (D i).f.size ≤ maxLen ∧ (D i).t.size ≤ maxLen) := h.sizes
  have HV : Hid (∀ i, i < n → (revCh n D i).f.size ≤ maxLen ∧ (revCh n D i).t.size ≤ maxLen) := rev_size h.sizes
  clear h
  go_enter Try.func3, Try.ntmps3
  go_wp2_with fail
  refine (laws_szChangeS _ HR.out).mono ?_
  rintro e u1 ⟨z, rfl, hz, hb⟩
  have K1 : Hid (Below w.heap.size w u1) := hb
  clear hb
  by_cases hneg : z < 0
  · go_wp2_with fail
    go_ret
    exact ⟨rfl, K1.out⟩
  have HN : Hid (n ≤ 1048576) := hz (by omega)
  clear hz
  go_wp2_with fail
  refine (laws_toChangeS _ (HR.out.below K1.out) HN.out).mono ?_
  rintro e u2 ⟨v9, rfl, ho, hb⟩
  obtain ⟨A9, cap9, rfl, _, _⟩ := own_shape ho
  have R1 : Hid (ChRow u2 A9 n D) := ch_of_own ho HS.out
  have K2 : Hid (Below w.heap.size w u2) := bchain K1.out hb
  clear hb ho
  go_wp2_with fail
  refine (spec_Turned _ R1.out HN.out).mono ?_
  rintro e u3 ⟨v0, rfl, ho, hb⟩
  obtain ⟨A0, cap0, rfl, _, _⟩ := own_shape ho
  have O0 : Hid (u3.ownsRow u2.heap.size 37 4 (.slice A0 n cap0) n (chX (revCh n D) n)) := ho
  have K3 : Hid (Below w.heap.size w u3) := bchain K2.out hb
  clear hb ho R1
  go_wp2_with fail
  refine (laws_toChangeS _ (HR.out.below K3.out) HN.out).mono ?_
  rintro e u4 ⟨vx, rfl, ho, hb⟩
  obtain ⟨AX, capX, rfl, _, _⟩ := own_shape ho
  have OX : Hid (u4.ownsRow u3.heap.size 37 4 (.slice AX n capX) n (chX D n)) := ho
  have K4 : Hid (Below w.heap.size w u4) := bchain K3.out hb
  have O04 : Hid (u4.ownsRow u2.heap.size 37 4 (.slice A0 n cap0) n (chX (revCh n D) n)) := own_below O0.out hb
  have Z4 : Hid (u3.heap.size ≤ u4.heap.size) := hb.size
  have NX0 : Hid ((Value.slice A0 n cap0).ownBlock = none ∨ (Value.slice A0 n cap0).ownBlock ≠ (Value.slice AX n capX).ownBlock) := own_ne O0.out ho (Nat.le_refl _)
  clear hb ho
  go_wp2_with fail
  refine (impl_Turned _ (ch_of_own OX.out HS.out) HN.out).mono ?_
  rintro e u5 ⟨v1, rfl, ho, hb⟩
  obtain ⟨A1, cap1, rfl, _, _⟩ := own_shape ho
  have O1 : Hid (u5.ownsRow u4.heap.size 37 4 (.slice A1 n cap1) n (chX (revCh n D) n)) := ho
  have K5 : Hid (Below w.heap.size w u5) := bchain K4.out hb
  have O05 : Hid (u5.ownsRow u2.heap.size 37 4 (.slice A0 n cap0) n (chX (revCh n D) n)) := own_below O04.out hb
  have OX5 : Hid (u5.ownsRow u3.heap.size 37 4 (.slice AX n capX) n (chX D n)) := own_below OX.out hb
  have NE : Hid ((Value.slice A0 n cap0).ownBlock = none ∨ (Value.slice A0 n cap0).ownBlock ≠ (Value.slice A1 n cap1).ownBlock) := own_ne O0.out O1.out Z4.out
  have NX1 : Hid ((Value.slice A1 n cap1).ownBlock = none ∨ (Value.slice A1 n cap1).ownBlock ≠ (Value.slice AX n capX).ownBlock) := own_ne' ho OX.out (Nat.le_refl _)
  clear hb ho O04
  go_wp2_with fail
  refine (laws_eqChangeS _ (ch_of_own O1.out HV.out) (ch_of_own O05.out HV.out)).mono ?_
  rintro e u6 ⟨rfl, hb⟩
  have K6 : Hid (Below w.heap.size w u6) := bchain K5.out hb
  have O06 : Hid (u6.ownsRow u2.heap.size 37 4 (.slice A0 n cap0) n (chX (revCh n D) n)) := own_below O05.out hb
  have O16 : Hid (u6.ownsRow u4.heap.size 37 4 (.slice A1 n cap1) n (chX (revCh n D) n)) := own_below O1.out hb
  have OX6 : Hid (u6.ownsRow u3.heap.size 37 4 (.slice AX n capX) n (chX D n)) := own_below OX5.out hb
  clear hb O05 OX5
  go_wp2_with fail
  refine (laws_toChangeS _ (HR.out.below K6.out) HN.out).mono ?_
  rintro e u7 ⟨v3, rfl, ho, hb⟩
  obtain ⟨A3, cap3, rfl, _, _⟩ := own_shape ho
  have O3 : Hid (u7.ownsRow u6.heap.size 37 4 (.slice A3 n cap3) n (chX D n)) := ho
  have K7 : Hid (Below w.heap.size w u7) := bchain K6.out hb
  have O07 : Hid (u7.ownsRow u2.heap.size 37 4 (.slice A0 n cap0) n (chX (revCh n D) n)) := own_below O06.out hb
  have O17 : Hid (u7.ownsRow u4.heap.size 37 4 (.slice A1 n cap1) n (chX (revCh n D) n)) := own_below O16.out hb
  have OX7 : Hid (u7.ownsRow u3.heap.size 37 4 (.slice AX n capX) n (chX D n)) := own_below OX6.out hb
  clear hb ho O06 O16 OX6
  go_wp2_with fail
  refine (laws_eqChangeS _ (ch_of_own OX7.out HS.out) (ch_of_own O3.out HS.out)).mono ?_
  rintro e u8 ⟨rfl, hb⟩
  have K8 : Hid (Below w.heap.size w u8) := bchain K7.out hb
  have O08 : Hid (u8.ownsRow u2.heap.size 37 4 (.slice A0 n cap0) n (chX (revCh n D) n)) := own_below O07.out hb
  have O18 : Hid (u8.ownsRow u4.heap.size 37 4 (.slice A1 n cap1) n (chX (revCh n D) n)) := own_below O17.out hb
  have OX8 : Hid (u8.ownsRow u3.heap.size 37 4 (.slice AX n capX) n (chX D n)) := own_below OX7.out hb
  clear hb O07 O17 OX7 O3
  go_wp2_with fail
  refine (laws_markChangeS _ OX8.out HN.out).mono ?_
  rintro e u9 ⟨rfl, ho, hg⟩
  have O09 : Hid (u9.ownsRow u2.heap.size 37 4 (.slice A0 n cap0) n (chX (revCh n D) n)) := O08.out.kept hg NX0.out
  have O19 : Hid (u9.ownsRow u4.heap.size 37 4 (.slice A1 n cap1) n (chX (revCh n D) n)) := O18.out.kept hg NX1.out
  have K9 : Hid (Below w.heap.size w u9) := K8.out.grown hg K8.out.size (fun q hq => Nat.le_trans K3.out.size (OX.out.lt q hq).1)
  clear ho hg O08 O18 OX8
  have hk2 : ¬ (1 + (n : Int) * 4 < 0) := by omega
  go_wp2_with fail
  refine (laws_eqChangeS _ (ch_of_own O19.out HV.out) (ch_of_own O09.out HV.out)).mono ?_
  rintro e u10 ⟨rfl, hb⟩
  have K10 : Hid (Below w.heap.size w u10) := bchain K9.out hb
  have O010 : Hid (u10.ownsRow u2.heap.size 37 4 (.slice A0 n cap0) n (chX (revCh n D) n)) := own_below O09.out hb
  have O110 : Hid (u10.ownsRow u4.heap.size 37 4 (.slice A1 n cap1) n (chX (revCh n D) n)) := own_below O19.out hb
  clear hb O09 O19
  go_wp2_with fail
  refine (laws_markChangeS _ O110.out HN.out).mono ?_
  rintro e u11 ⟨rfl, ho, hg⟩
  have O111 : Hid (u11.ownsRow u4.heap.size 37 4 (.slice A1 n cap1) n (chX mkD n)) := ho
  have O011 : Hid (u11.ownsRow u2.heap.size 37 4 (.slice A0 n cap0) n (chX (revCh n D) n)) := O010.out.kept hg NE.out
  have K11 : Hid (Below w.heap.size w u11) := K10.out.grown hg K10.out.size (fun q hq => Nat.le_trans K4.out.size (O110.out.lt q hq).1)
  clear ho hg O010 O110
  go_wp2_with fail
  refine (laws_heldChangeS _ (ch_of_own O111.out (mkD_size HN.out)) HN.out).mono ?_
  rintro e u12 ⟨rfl, hb⟩
  have K12 : Hid (Below w.heap.size w u12) := bchain K11.out hb
  have O012 : Hid (u12.ownsRow u2.heap.size 37 4 (.slice A0 n cap0) n (chX (revCh n D) n)) := own_below O011.out hb
  have O112 : Hid (u12.ownsRow u4.heap.size 37 4 (.slice A1 n cap1) n (chX mkD n)) := own_below O111.out hb
  clear hb O011 O111
  go_wp2_with fail
  refine (laws_toChangeS _ (HR.out.below K12.out) HN.out).mono ?_
  rintro e u13 ⟨v4, rfl, ho, hb⟩
  obtain ⟨A4, cap4, rfl, _, _⟩ := own_shape ho
  have R4 : Hid (ChRow u13 A4 n D) := ch_of_own ho HS.out
  have K13 : Hid (Below w.heap.size w u13) := bchain K12.out hb
  have O013 : Hid (u13.ownsRow u2.heap.size 37 4 (.slice A0 n cap0) n (chX (revCh n D) n)) := own_below O012.out hb
  have O113 : Hid (u13.ownsRow u4.heap.size 37 4 (.slice A1 n cap1) n (chX mkD n)) := own_below O112.out hb
  clear hb ho O012 O112
  go_wp2_with fail
  refine (impl_Turned _ R4.out HN.out).mono ?_
  rintro e u14 ⟨v2, rfl, ho, hb⟩
  obtain ⟨A2, cap2, rfl, _, _⟩ := own_shape ho
  have O2 : Hid (u14.ownsRow u13.heap.size 37 4 (.slice A2 n cap2) n (chX (revCh n D) n)) := ho
  have K14 : Hid (Below w.heap.size w u14) := bchain K13.out hb
  have O014 : Hid (u14.ownsRow u2.heap.size 37 4 (.slice A0 n cap0) n (chX (revCh n D) n)) := own_below O013.out hb
  have O114 : Hid (u14.ownsRow u4.heap.size 37 4 (.slice A1 n cap1) n (chX mkD n)) := own_below O113.out hb
  clear hb ho O013 O113
  go_wp2_with fail
  refine (laws_eqChangeS _ (ch_of_own O2.out HV.out) (ch_of_own O014.out HV.out)).mono ?_
  rintro e u15 ⟨rfl, hb⟩
  have K15 : Hid (Below w.heap.size w u15) := bchain K14.out hb
  have O115 : Hid (u15.ownsRow u4.heap.size 37 4 (.slice A1 n cap1) n (chX mkD n)) := own_below O114.out hb
  clear hb
  go_wp2_with fail
  refine (laws_heldChangeS _ (ch_of_own O115.out (mkD_size HN.out)) HN.out).mono ?_
  rintro e u16 ⟨rfl, hb⟩
  have K16 : Hid (Below w.heap.size w u16) := bchain K15.out hb
  clear hb
  go_wp2_with fail
  go_ret
  exact ⟨rfl, K16.out⟩
end Go.Proofs.Ytaijbonllaeilaa
