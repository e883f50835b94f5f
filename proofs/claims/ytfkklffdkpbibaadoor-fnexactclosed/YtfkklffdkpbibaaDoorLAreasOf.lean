import Derived.Test.YtfkklffdkpbibaaDoorArD
import Derived.Test.YtfkklffdkpbibaaDoorMkB
namespace Go.Proofs.YtfkklffdkpbibaaDoor
open Go.RowKit
set_option linter.unusedVariables false

theorem own_ne {W W' : World} {B B' : Nat} {e e' : TypeId} {s s' n n' : Nat} {v v' : Value} {xs xs' : List Value} (h : W.ownsRow B e s v n xs) (h' : W'.ownsRow B' e' s' v' n' xs') (hl : W.heap.size ≤ B') : v.ownBlock = none ∨ v.ownBlock ≠ v'.ownBlock := by
  cases hv : v.ownBlock with
  | none => exact Or.inl rfl
  | some g =>
    right
    intro e
    have h1 := (h.lt g hv).2
    have h2 := (h'.lt g e.symm).1
    omega
theorem own_mid {W W' : World} {g B1 B : Nat} {e : TypeId} {s n : Nat} {v : Value} {xs : List Value} (h : W.ownsRow B e s v n xs) (hm : Mid g B1 W W') (hb : ∀ b, v.ownBlock = some b → b < g ∨ B1 ≤ b) : W'.ownsRow B e s v n xs := by
  refine ⟨h.1, ?_⟩
  rcases h.2 with hn | ⟨q, cap, cur, rfl, hB, hgg, rest⟩
  · exact .inl hn
  · exact .inr ⟨q, cap, cur, rfl, hB, by rw [hm.block q (Array.getElem?_eq_some_iff.1 hgg).1 (hb q rfl)]; exact hgg, rest⟩
theorem below_mid {w W W' : World} {g B1 : Nat} (h : Below w.heap.size w W) (hm : Mid g B1 W W') (hg : w.heap.size ≤ g) : Below w.heap.size w W' :=
  ⟨hm.os.trans h.os, hm.tape.trans h.tape, hm.output.trans h.output, Nat.le_trans h.size hm.size, fun k hk => (hm.block k (Nat.lt_of_lt_of_le hk h.size) (Or.inl (by omega))).trans (h.block k hk)⟩
theorem mk_of {W U : World} {g n : Nat} {ys : List Value} {F : Nat → FN} (h : U.ownsRow g 53 14 (.slice (some ⟨g, 0, none⟩) n n) n ys) (hp : FnPart U (g + 1) ys F n) (hb : Below U.heap.size U W) : Mk W g U.heap.size n F W := by
  refine ⟨Mid.refl _ _ _, ys, own_below h hb, fun i hi => ?_⟩
  obtain ⟨KA, kc, h1, h2⟩ := hp i hi
  exact ⟨KA, kc, (h1 13 (by omega)).trans rfl, ⟨_, own_below h2 hb⟩, fun b hbk => (h2.lt b hbk).2⟩

set_option maxHeartbeats 8000000 in
theorem law_FnExactAreasOf (A : Option Addr) (n cap : Nat) (F : Nat → FN) (w : World) (h : FnRow w A n F) (hft : FT w) : Calls Tryd.prog 4 #[.slice A n cap] w fun e w' =>
    e = .returned (.bool true) ∧ Below w.heap.size w w' := by
  have HR : Hid (FnRow w A n F) := h
  have HFT : Hid (FT w) := hft
  have HS : Hid (∀ i, i < n → (F i).cs.size ≤ maxLen) := fun i hi => by obtain ⟨_, _, _, _, _, _, _, _, hs⟩ := h.2 i hi; exact hs
  have HMN : Hid ((arsM F n) ≤ 60) := arsM_le F n
  have HXI : Hid (∀ j, j < (arsM F n) * 4 → ∃ z, (arsX F n)[j]? = some (.int .i64 z)) := arsX_int F n
  clear h hft
  go_enter Tryd.func4, Tryd.ntmps4
  go_wp2_with fail
  refine (laws_szFNodeS _ HR.out).mono ?_
  rintro e u1 ⟨z, rfl, hz, hb⟩
  have K1 : Hid (Below w.heap.size w u1) := hb
  clear hb
  by_cases hneg : z < 0
  · go_wp2_with fail
    go_ret
    exact ⟨rfl, K1.out⟩
  have HN : Hid (n ≤ 1048576 ∧ ∀ i, i < n → (F i).kids.length ≤ 1048576) := hz (by omega)
  clear hz
  go_wp2_with fail
  refine (laws_toFNodeS _ (HR.out.below K1.out) HN.out.1 HN.out.2).mono ?_
  rintro e u2 ⟨ys, rfl, ho, hp, hb⟩
  have R1 : Hid (FnRow u2 (some ⟨u1.heap.size, 0, none⟩) n F) := fn_of_own ho hp HS.out
  have K2 : Hid (Below w.heap.size w u2) := bchain K1.out hb
  clear hb ho hp
  go_wp2_with fail
  refine (spec_AreasOf _ R1.out HN.out.1 HN.out.2).mono ?_
  rintro e u3 ⟨v0, rfl, ho, hb⟩
  have O0 : Hid (u3.ownsRow u2.heap.size 59 4 v0 (arsM F n) (arsX F n)) := ho
  have K3 : Hid (Below w.heap.size w u3) := bchain K2.out hb
  clear hb ho R1
  go_wp2_with fail
  refine (laws_toFNodeS _ (HR.out.below K3.out) HN.out.1 HN.out.2).mono ?_
  rintro e u4 ⟨ys', rfl, ho, hp, hb⟩
  have R2 : Hid (FnRow u4 (some ⟨u3.heap.size, 0, none⟩) n F) := fn_of_own ho hp HS.out
  have HOX : Hid (u4.ownsRow u3.heap.size 53 14 (.slice (some ⟨u3.heap.size, 0, none⟩) n n) n ys') := ho
  have HPX : Hid (FnPart u4 (u3.heap.size + 1) ys' F n) := hp
  have K4 : Hid (Below w.heap.size w u4) := bchain K3.out hb
  have HGB : Hid (u3.heap.size < u4.heap.size) := by
    have h9 := (ho.lt u3.heap.size rfl).2
    exact h9
  have O04 : Hid (u4.ownsRow u2.heap.size 59 4 v0 (arsM F n) (arsX F n)) := own_below O0.out hb
  have Z4 : Hid (u3.heap.size ≤ u4.heap.size) := hb.size
  clear hb ho hp
  go_wp2_with fail
  refine (impl_AreasOf _ R2.out HN.out.1 HN.out.2 (HFT.out.below K4.out)).mono ?_
  rintro e u5 ⟨v1, rfl, ho, hb⟩
  have O1 : Hid (u5.ownsRow u4.heap.size 59 4 v1 (arsM F n) (arsX F n)) := ho
  have B5 : Hid (Below u4.heap.size u4 u5) := hb
  have K5 : Hid (Below w.heap.size w u5) := bchain K4.out hb
  have O05 : Hid (u5.ownsRow u2.heap.size 59 4 v0 (arsM F n) (arsX F n)) := own_below O04.out hb
  have NE : Hid (v0.ownBlock = none ∨ v0.ownBlock ≠ v1.ownBlock) := own_ne O0.out O1.out Z4.out
  clear hb ho O04
  go_wp2_with fail
  refine (laws_eqAreaS _ O1.out O05.out HXI.out).mono ?_
  rintro e u6 ⟨rfl, hb⟩
  have B6 : Hid (Below u4.heap.size u4 u6) := bchain B5.out hb
  have K6 : Hid (Below w.heap.size w u6) := bchain K5.out hb
  have O06 : Hid (u6.ownsRow u2.heap.size 59 4 v0 (arsM F n) (arsX F n)) := own_below O05.out hb
  have O16 : Hid (u6.ownsRow u4.heap.size 59 4 v1 (arsM F n) (arsX F n)) := own_below O1.out hb
  clear hb O05 B5
  go_wp2_with fail
  refine (laws_toFNodeS _ (HR.out.below K6.out) HN.out.1 HN.out.2).mono ?_
  rintro e u7 ⟨ys'', rfl, ho, hp, hb⟩
  have R3 : Hid (FnRow u7 (some ⟨u6.heap.size, 0, none⟩) n F) := fn_of_own ho hp HS.out
  have B7 : Hid (Below u4.heap.size u4 u7) := bchain B6.out hb
  have K7 : Hid (Below w.heap.size w u7) := bchain K6.out hb
  have O07 : Hid (u7.ownsRow u2.heap.size 59 4 v0 (arsM F n) (arsX F n)) := own_below O06.out hb
  have O17 : Hid (u7.ownsRow u4.heap.size 59 4 v1 (arsM F n) (arsX F n)) := own_below O16.out hb
  clear hb ho hp O06 O16 B6
  go_wp2_with fail
  refine (laws_eqFNodeS _ (R2.out.below B7.out) R3.out).mono ?_
  rintro e u8 ⟨rfl, hb⟩
  have B8 : Hid (Below u4.heap.size u4 u8) := bchain B7.out hb
  have K8 : Hid (Below w.heap.size w u8) := bchain K7.out hb
  have O08 : Hid (u8.ownsRow u2.heap.size 59 4 v0 (arsM F n) (arsX F n)) := own_below O07.out hb
  have O18 : Hid (u8.ownsRow u4.heap.size 59 4 v1 (arsM F n) (arsX F n)) := own_below O17.out hb
  clear hb O07 O17 B7 R2 R3
  go_wp2_with fail
  refine (laws_markFNodeS (mk_of HOX.out HPX.out B8.out) HGB.out HN.out.1 HN.out.2).mono ?_
  rintro e u9 ⟨k, rfl, hk, hm⟩
  have O09 : Hid (u9.ownsRow u2.heap.size 59 4 v0 (arsM F n) (arsX F n)) := own_mid O08.out hm (fun b hb => Or.inl (O0.out.lt b hb).2)
  have O19 : Hid (u9.ownsRow u4.heap.size 59 4 v1 (arsM F n) (arsX F n)) := own_mid O18.out hm (fun b hb => Or.inr (O1.out.lt b hb).1)
  have K9 : Hid (Below w.heap.size w u9) := below_mid K8.out hm K3.out.size
  clear hm O08 O18 HOX HPX B8
  have hk2 : ¬ k < 0 := by omega
  go_wp2_with fail
  refine (laws_eqAreaS _ O19.out O09.out HXI.out).mono ?_
  rintro e u10 ⟨rfl, hb⟩
  have K10 : Hid (Below w.heap.size w u10) := bchain K9.out hb
  have O010 : Hid (u10.ownsRow u2.heap.size 59 4 v0 (arsM F n) (arsX F n)) := own_below O09.out hb
  have O110 : Hid (u10.ownsRow u4.heap.size 59 4 v1 (arsM F n) (arsX F n)) := own_below O19.out hb
  clear hb O09 O19
  go_wp2_with fail
  refine (laws_markAreaS 1 _ O110.out (by have := HMN.out; omega) (by omega) (by omega)).mono ?_
  rintro e u11 ⟨rfl, ⟨zs, ho, hy⟩, hg⟩
  have O111 : Hid (u11.ownsRow u4.heap.size 59 4 v1 (arsM F n) zs) := ho
  have HY : Hid (Marked zs 1 ((arsM F n) * 4)) := hy
  have O011 : Hid (u11.ownsRow u2.heap.size 59 4 v0 (arsM F n) (arsX F n)) := O010.out.kept hg NE.out
  have K11 : Hid (Below w.heap.size w u11) := K10.out.grown hg K10.out.size (fun q hq => Nat.le_trans K4.out.size (O110.out.lt q hq).1)
  clear ho hy hg O010 O110
  go_wp2_with fail
  refine (laws_heldAreaS 1 _ O111.out HY.out (by have := HMN.out; omega) (by omega) (by omega)).mono ?_
  rintro e u12 ⟨rfl, hb⟩
  have K12 : Hid (Below w.heap.size w u12) := bchain K11.out hb
  have O012 : Hid (u12.ownsRow u2.heap.size 59 4 v0 (arsM F n) (arsX F n)) := own_below O011.out hb
  have O112 : Hid (u12.ownsRow u4.heap.size 59 4 v1 (arsM F n) zs) := own_below O111.out hb
  clear hb O011 O111
  have hq : ¬ (1 + (((arsM F n) : Nat) : Int) * 4 < 0) := by omega
  go_wp2_with fail
  refine (laws_toFNodeS _ (HR.out.below K12.out) HN.out.1 HN.out.2).mono ?_
  rintro e u13 ⟨ys3, rfl, ho, hp, hb⟩
  have R4 : Hid (FnRow u13 (some ⟨u12.heap.size, 0, none⟩) n F) := fn_of_own ho hp HS.out
  have K13 : Hid (Below w.heap.size w u13) := bchain K12.out hb
  have O013 : Hid (u13.ownsRow u2.heap.size 59 4 v0 (arsM F n) (arsX F n)) := own_below O012.out hb
  have O113 : Hid (u13.ownsRow u4.heap.size 59 4 v1 (arsM F n) zs) := own_below O112.out hb
  clear hb ho hp O012 O112
  go_wp2_with fail
  refine (impl_AreasOf _ R4.out HN.out.1 HN.out.2 (HFT.out.below K13.out)).mono ?_
  rintro e u14 ⟨v2, rfl, ho, hb⟩
  have O2 : Hid (u14.ownsRow u13.heap.size 59 4 v2 (arsM F n) (arsX F n)) := ho
  have K14 : Hid (Below w.heap.size w u14) := bchain K13.out hb
  have O014 : Hid (u14.ownsRow u2.heap.size 59 4 v0 (arsM F n) (arsX F n)) := own_below O013.out hb
  have O114 : Hid (u14.ownsRow u4.heap.size 59 4 v1 (arsM F n) zs) := own_below O113.out hb
  clear hb ho O013 O113
  go_wp2_with fail
  refine (laws_eqAreaS _ O2.out O014.out HXI.out).mono ?_
  rintro e u15 ⟨rfl, hb⟩
  have K15 : Hid (Below w.heap.size w u15) := bchain K14.out hb
  have O115 : Hid (u15.ownsRow u4.heap.size 59 4 v1 (arsM F n) zs) := own_below O114.out hb
  clear hb
  go_wp2_with fail
  refine (laws_heldAreaS 1 _ O115.out HY.out (by have := HMN.out; omega) (by omega) (by omega)).mono ?_
  rintro e u16 ⟨rfl, hb⟩
  have K16 : Hid (Below w.heap.size w u16) := bchain K15.out hb
  clear hb
  go_wp2_with fail
  go_ret
  exact ⟨rfl, K16.out⟩
end Go.Proofs.YtfkklffdkpbibaaDoor
