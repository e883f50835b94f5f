import Derived.Test.YtpkmboohfomieaaGreatDoorFnA
namespace Go.Proofs.YtpkmboohfomieaaGreatDoor
open Go.RowKit
set_option linter.unusedSimpArgs false

set_option maxHeartbeats 4000000 in
theorem laws_toFNode (k o ck cn : Int) (cs : ByteArray) (ac ar : Int) (af ag : Bool) (bc br : Int) (bf bg : Bool) {KA : Option Addr} {kc : Nat} {l : List Int} (w : World) (h : IntRow w KA l) (hn : l.length ≤ 1048576) :
    Calls Tryz.prog 80 #[.agg #[.int .i64 k, .int .i64 o, .int .i64 ck, .int .i64 cn, .string cs, .int .i64 ac, .int .i64 ar, .bool af, .bool ag, .int .i64 bc, .int .i64 br, .bool bf, .bool bg, .slice KA l.length kc]] w fun e w' => ∃ KB kb, e = .returned (.agg #[.int .i64 k, .int .i64 o, .int .i64 ck, .int .i64 cn, .string cs, .int .i64 ac, .int .i64 ar, .bool af, .bool ag, .int .i64 bc, .int .i64 br, .bool bf, .bool bg, .slice KB l.length kb]) ∧ w'.ownsRow w.heap.size 2 1 (.slice KB l.length kb) l.length (l.map (Value.int .i64)) ∧ Below w.heap.size w w' := by
  have HI : Hid (IntRow w KA l) := h
  have HN : Hid (l.length ≤ 1048576) := hn
  clear h hn
  go_enter Tryz.func80, Tryz.ntmps80
  go_wp2_with (first
    | (go_at_call 134; refine (laws_toValue _ _ _ _).mono ?_; rintro e w1 ⟨rfl, hb⟩; obtain ⟨hc, hf, hC, hF, hz, hk, l0, l1, l2⟩ := bk3 (w := w) (by go_grown) (by go_size) hb; clear hb)
    | (go_at_call 135; refine (laws_toPlace _ _ _ _ _).mono ?_; rintro e w1 ⟨rfl, hb⟩; obtain ⟨hc, hf, hC, hF, hz, hk, l0, l1, l2⟩ := bk3 (w := w) (by go_grown) (by go_size) hb; clear hb))
  refine (laws_toInt64S _ (HI.out.below (by go_grown)) HN.out).mono ?_
  rintro e w9 ⟨v, rfl, ho, hb⟩
  obtain ⟨KB, kb, rfl, _, _⟩ := own_shape ho
  have HO : Hid (w9.ownsRow (w.heap.size + 3) 2 1 (.slice KB l.length kb) l.length (l.map (Value.int .i64))) := own_mono ho (by go_size)
  obtain ⟨hc9, hf9, hC9, hF9, hz9, hk9, m0, m1, m2⟩ := bk3 (w := w) (by go_grown) (by go_size) hb
  clear hb ho
  go_wp2_with fail
  refine bodyPost_ret (v := .agg #[.int .i64 k, .int .i64 o, .int .i64 ck, .int .i64 cn, .string cs, .int .i64 ac, .int .i64 ar, .bool af, .bool ag, .int .i64 bc, .int .i64 br, .bool bf, .bool bg, .slice KB l.length kb]) ?_ rfl ⟨_, _, rfl, ?_, by go_grown⟩
  · simp (maxDischargeDepth := 9) [results, Tryz.results80, go_sem, *]
  · refine own_mono (B := w.heap.size + 3) ?_ (by omega)
    repeat (refine ownsRow_setCell_below ?_ (by simp) _)
    exact HO.out

/-- What a row of nodes of the call's own holds, up to t. -/
def FnPart (W : World) (B : Nat) (ys : List Value) (F : Nat → FN) (t : Nat) : Prop :=
  ∀ i, i < t → ∃ KA kc, (∀ j, j < 14 → ys[i * 14 + j]? = (nodeL (F i) KA kc)[j]?) ∧ W.ownsRow B 2 1 (.slice KA (F i).kids.length kc) (F i).kids.length ((F i).kids.map (Value.int .i64))
theorem FnPart.below {W W' : World} {B : Nat} {ys : List Value} {F : Nat → FN} {t : Nat} (h : FnPart W B ys F t) (hb : Below W.heap.size W W') : FnPart W' B ys F t := fun i hi => by
  obtain ⟨KA, kc, h1, h2⟩ := h i hi
  exact ⟨KA, kc, h1, own_below h2 hb⟩
theorem fn_of_own {W : World} {B g n cap : Nat} {ys : List Value} {F : Nat → FN} (h : W.ownsRow B 60 14 (.slice (some ⟨g, 0, none⟩) n cap) n ys) {B' : Nat} (hp : FnPart W B' ys F n) (hs : ∀ i, i < n → (F i).cs.size ≤ maxLen) : FnRow W (some ⟨g, 0, none⟩) n F := by
  obtain ⟨A', cap', e, hn, hc⟩ := own_shape h
  cases e
  refine ⟨hn, fun i hi => ?_⟩
  obtain ⟨KA, kc, h1, h2⟩ := hp i hi
  have hcell : ∀ j, j < 14 → W.cell? ⟨g, 0 + i * 14 + j, none⟩ = (nodeL (F i) KA kc)[j]? := fun j hj => by
    obtain ⟨g', e', _, _, c, _⟩ := hc (i * 14 + j) (by omega)
    cases e'
    rw [Nat.zero_add, c, h1 j hj]
  obtain ⟨g', e', _, hl, _, _⟩ := hc (i * 14) (by omega)
  cases e'
  refine ⟨g, 0, KA, kc, rfl, hl, ⟨hcell 0 (by omega), hcell 1 (by omega), hcell 2 (by omega), hcell 3 (by omega), hcell 4 (by omega), hcell 5 (by omega), hcell 6 (by omega), hcell 7 (by omega), hcell 8 (by omega), hcell 9 (by omega), hcell 10 (by omega), hcell 11 (by omega), hcell 12 (by omega), hcell 13 (by omega)⟩, int_of_own h2, hs i hi⟩
/-- A node stored behind those that are there. -/
theorem part_step {W : World} {g n cap t : Nat} {ys : List Value} {F : Nat → FN} {KB : Option Addr} {kb : Nat} (h : W.ownsRow g 60 14 (.slice (some ⟨g, 0, none⟩) n cap) n ys) (ht : t < n) (hp : FnPart W (g + 1) ys F t)
    (hk : W.ownsRow (g + 1) 2 1 (.slice KB (F t).kids.length kb) (F t).kids.length ((F t).kids.map (Value.int .i64))) :
    ∃ zs, (setAll W g (t * 14) (nodeL (F t) KB kb)).ownsRow g 60 14 (.slice (some ⟨g, 0, none⟩) n cap) n zs ∧ FnPart (setAll W g (t * 14) (nodeL (F t) KB kb)) (g + 1) zs F (t + 1) ∧ W.grownBy (setAll W g (t * 14) (nodeL (F t) KB kb)) (some g) := by
  obtain ⟨o, gr⟩ := own_set (nodeL (F t) KB kb) W (t * 14) ys h
  refine ⟨_, o, fun i hi => ?_, gr⟩
  have hl := h.1
  have hlen : (nodeL (F t) KB kb).length = 14 := rfl
  have keep : ∀ {KA : Option Addr} {m kc : Nat} {xs : List Value}, W.ownsRow (g + 1) 2 1 (.slice KA m kc) m xs → (setAll W g (t * 14) (nodeL (F t) KB kb)).ownsRow (g + 1) 2 1 (.slice KA m kc) m xs := fun hh => hh.kept gr (by
    cases hv : (Value.slice _ _ _).ownBlock with
    | none => exact Or.inl rfl
    | some b => right; intro e; have := (hh.lt b hv).1; cases e; omega)
  by_cases e : i = t
  · subst e
    exact ⟨KB, kb, fun j hj => overw_at _ _ _ j (by omega) (by rw [hlen]; omega), keep hk⟩
  · obtain ⟨KA, kc, h1, h2⟩ := hp i (by omega)
    exact ⟨KA, kc, fun j hj => by rw [overw_lt _ _ _ _ (by omega)]; exact h1 j hj, keep h2⟩

set_option maxHeartbeats 4000000 in
theorem laws_toFNodeS {A : Option Addr} {n cap : Nat} {F : Nat → FN} (w : World) (h : FnRow w A n F) (hn : n ≤ 1048576) (hkn : ∀ i, i < n → (F i).kids.length ≤ 1048576) :
    Calls Tryz.prog 35 #[.slice A n cap] w fun e w' => ∃ ys, e = .returned (.slice (some ⟨w.heap.size, 0, none⟩) n n) ∧ w'.ownsRow w.heap.size 60 14 (.slice (some ⟨w.heap.size, 0, none⟩) n n) n ys ∧ FnPart w' (w.heap.size + 1) ys F n ∧ Below w.heap.size w w' := by
  have HR : Hid (FnRow w A n F) := h
  have HKN : Hid (∀ i, i < n → (F i).kids.length ≤ 1048576) := hkn
  clear h hkn
  obtain ⟨i0, hi, hz0, hz1, hz2⟩ := info_parts infoFn
  go_enter Tryz.func35, Tryz.ntmps35
  go_wp2_with (refine wpList_make_full _ rfl _ _ 24 rfl w.heap.size 60 i0 _ 14 Tryz.underlying24 hi hz0 hz1 _ _ _ _ n rfl rfl rfl rfl ?m1 ?m2 ?m3 ?_)
  case m1 => rw [hz2]; omega
  case m2 => unfold maxLen; omega
  case m3 => exact Nat.le_refl _
  intro w1 hown hgrow
  have hg1 : Below w.heap.size w w1 := (Below.refl _ _).grown hgrow (Nat.le_refl _) (fun k hk => by cases hk)
  obtain ⟨ys, hown⟩ : ∃ ys, w1.ownsRow w.heap.size 60 14 (.slice (some ⟨w.heap.size, 0, none⟩) n n) n ys := ⟨_, hown⟩
  clear hgrow
  have HO : Hid (w1.ownsRow w.heap.size 60 14 (.slice (some ⟨w.heap.size, 0, none⟩) n n) n ys) := hown
  clear hown
  go_wp2_with fail
  go_loopw [4] (fun i wr => ∃ t : Nat, t ≤ n ∧ i = .int .i64 t ∧ (∃ ys, wr.ownsRow w.heap.size 60 14 (.slice (some ⟨w.heap.size, 0, none⟩) n n) n ys ∧ FnPart wr (w.heap.size + 1) ys F t) ∧ Below w.heap.size w wr) (fun i _ => n - (intOf i).toNat)
  case atStart => exact ⟨0, Nat.zero_le _, rfl, ⟨ys, HO.out, fun j hj => by omega⟩, hg1⟩
  case round =>
    clear HO hg1
    obtain ⟨t, ht, rfl, ⟨ys, hown, hys⟩, hbel⟩ := hrel
    by_cases hlt : t < n
    · obtain ⟨b, o, KA, kc, rfl, hl, hnd, hki, hs⟩ := HR.out.2 t hlt
      obtain ⟨c0, c1, c2, c3, c4, c5, c6, c7, c8, c9, c10, c11, c12, c13⟩ := hnd.below hl (W' := wr) hbel
      have HKI : Hid (IntRow wr KA (F t).kids) := hki.below hbel
      have q0 : (0 : Int) ≤ (t : Int) := by omega
      have q1 : (t : Int) < (n : Int) := by omega
      have HO : Hid (wr.ownsRow w.heap.size 60 14 (.slice (some ⟨w.heap.size, 0, none⟩) n n) n ys) := hown
      have HY : Hid (FnPart wr (w.heap.size + 1) ys F t) := hys
      have HB : Hid (Below w.heap.size w wr) := hbel
      have HBS : Hid (w.heap.size + 1 ≤ wr.heap.size) := by
        obtain ⟨A', cap', e, _, hc⟩ := own_shape hown
        cases e
        obtain ⟨g', e', _, hg', _⟩ := hc (t * 14) (by omega)
        cases e'
        exact hg'
      clear hown hys hbel hki hnd
      go_wp2_with fail
      refine (laws_toFNode _ _ _ _ _ _ _ _ _ _ _ _ _ _ HKI.out (HKN.out t hlt)).mono ?_
      rintro e w2 ⟨KB, kb, rfl, hkb, hb⟩
      have HKB : Hid (w2.ownsRow (w.heap.size + 1) 2 1 (.slice KB (F t).kids.length kb) (F t).kids.length ((F t).kids.map (Value.int .i64))) := own_mono hkb HBS.out
      have HO2 : Hid (w2.ownsRow w.heap.size 60 14 (.slice (some ⟨w.heap.size, 0, none⟩) n n) n ys) := own_below HO.out hb
      have HY2 : Hid (FnPart w2 (w.heap.size + 1) ys F t) := HY.out.below hb
      have HB2 : Hid (Below w.heap.size w w2) := bchain HB.out hb
      obtain ⟨A', cap', e, _, hc⟩ := own_shape HO2.out
      cases e
      have hl5 := HO2.out.1
      have hx : ∀ j, j < 14 → ∃ x, w2.cell? ⟨w.heap.size, t * 14 + j, none⟩ = some x ∧ w2.frozen? ⟨w.heap.size, t * 14 + j, none⟩ = false := fun j hj => by
        obtain ⟨g', e', _, _, d, f⟩ := hc (t * 14 + j) (by omega)
        cases e'
        exact ⟨_, d.trans (List.getElem?_eq_getElem (by omega)), f⟩
      obtain ⟨x0, d0, f0⟩ := hx 0 (by omega)
      obtain ⟨x1, d1, f1⟩ := hx 1 (by omega)
      obtain ⟨x2, d2, f2⟩ := hx 2 (by omega)
      obtain ⟨x3, d3, f3⟩ := hx 3 (by omega)
      obtain ⟨x4, d4, f4⟩ := hx 4 (by omega)
      obtain ⟨x5, d5, f5⟩ := hx 5 (by omega)
      obtain ⟨x6, d6, f6⟩ := hx 6 (by omega)
      obtain ⟨x7, d7, f7⟩ := hx 7 (by omega)
      obtain ⟨x8, d8, f8⟩ := hx 8 (by omega)
      obtain ⟨x9, d9, f9⟩ := hx 9 (by omega)
      obtain ⟨x10, d10, f10⟩ := hx 10 (by omega)
      obtain ⟨x11, d11, f11⟩ := hx 11 (by omega)
      obtain ⟨x12, d12, f12⟩ := hx 12 (by omega)
      obtain ⟨x13, d13, f13⟩ := hx 13 (by omega)
      rw [Nat.add_zero] at d0 f0
      clear hx hc hl5 hb hkb c0 c1 c2 c3 c4 c5 c6 c7 c8 c9 c10 c11 c12 c13 HO HY HB
      have HT : Hid (∃ zs, ((((((((((((((w2.setCell ⟨w.heap.size, t * 14, none⟩ (.int .i64 ((F t).k))).setCell ⟨w.heap.size, t * 14 + 1, none⟩ (.int .i64 ((F t).o))).setCell ⟨w.heap.size, t * 14 + 2, none⟩ (.int .i64 ((F t).ck))).setCell ⟨w.heap.size, t * 14 + 3, none⟩ (.int .i64 ((F t).cn))).setCell ⟨w.heap.size, t * 14 + 4, none⟩ (.string ((F t).cs))).setCell ⟨w.heap.size, t * 14 + 5, none⟩ (.int .i64 ((F t).ac))).setCell ⟨w.heap.size, t * 14 + 6, none⟩ (.int .i64 ((F t).ar))).setCell ⟨w.heap.size, t * 14 + 7, none⟩ (.bool ((F t).af))).setCell ⟨w.heap.size, t * 14 + 8, none⟩ (.bool ((F t).ag))).setCell ⟨w.heap.size, t * 14 + 9, none⟩ (.int .i64 ((F t).bc))).setCell ⟨w.heap.size, t * 14 + 10, none⟩ (.int .i64 ((F t).br))).setCell ⟨w.heap.size, t * 14 + 11, none⟩ (.bool ((F t).bf))).setCell ⟨w.heap.size, t * 14 + 12, none⟩ (.bool ((F t).bg))).setCell ⟨w.heap.size, t * 14 + 13, none⟩ (.slice KB (F t).kids.length kb)).ownsRow w.heap.size 60 14 (.slice (some ⟨w.heap.size, 0, none⟩) n n) n zs ∧ FnPart ((((((((((((((w2.setCell ⟨w.heap.size, t * 14, none⟩ (.int .i64 ((F t).k))).setCell ⟨w.heap.size, t * 14 + 1, none⟩ (.int .i64 ((F t).o))).setCell ⟨w.heap.size, t * 14 + 2, none⟩ (.int .i64 ((F t).ck))).setCell ⟨w.heap.size, t * 14 + 3, none⟩ (.int .i64 ((F t).cn))).setCell ⟨w.heap.size, t * 14 + 4, none⟩ (.string ((F t).cs))).setCell ⟨w.heap.size, t * 14 + 5, none⟩ (.int .i64 ((F t).ac))).setCell ⟨w.heap.size, t * 14 + 6, none⟩ (.int .i64 ((F t).ar))).setCell ⟨w.heap.size, t * 14 + 7, none⟩ (.bool ((F t).af))).setCell ⟨w.heap.size, t * 14 + 8, none⟩ (.bool ((F t).ag))).setCell ⟨w.heap.size, t * 14 + 9, none⟩ (.int .i64 ((F t).bc))).setCell ⟨w.heap.size, t * 14 + 10, none⟩ (.int .i64 ((F t).br))).setCell ⟨w.heap.size, t * 14 + 11, none⟩ (.bool ((F t).bf))).setCell ⟨w.heap.size, t * 14 + 12, none⟩ (.bool ((F t).bg))).setCell ⟨w.heap.size, t * 14 + 13, none⟩ (.slice KB (F t).kids.length kb)) (w.heap.size + 1) zs F (t + 1) ∧ w2.grownBy ((((((((((((((w2.setCell ⟨w.heap.size, t * 14, none⟩ (.int .i64 ((F t).k))).setCell ⟨w.heap.size, t * 14 + 1, none⟩ (.int .i64 ((F t).o))).setCell ⟨w.heap.size, t * 14 + 2, none⟩ (.int .i64 ((F t).ck))).setCell ⟨w.heap.size, t * 14 + 3, none⟩ (.int .i64 ((F t).cn))).setCell ⟨w.heap.size, t * 14 + 4, none⟩ (.string ((F t).cs))).setCell ⟨w.heap.size, t * 14 + 5, none⟩ (.int .i64 ((F t).ac))).setCell ⟨w.heap.size, t * 14 + 6, none⟩ (.int .i64 ((F t).ar))).setCell ⟨w.heap.size, t * 14 + 7, none⟩ (.bool ((F t).af))).setCell ⟨w.heap.size, t * 14 + 8, none⟩ (.bool ((F t).ag))).setCell ⟨w.heap.size, t * 14 + 9, none⟩ (.int .i64 ((F t).bc))).setCell ⟨w.heap.size, t * 14 + 10, none⟩ (.int .i64 ((F t).br))).setCell ⟨w.heap.size, t * 14 + 11, none⟩ (.bool ((F t).bf))).setCell ⟨w.heap.size, t * 14 + 12, none⟩ (.bool ((F t).bg))).setCell ⟨w.heap.size, t * 14 + 13, none⟩ (.slice KB (F t).kids.length kb)) (some w.heap.size)) := part_step HO2.out hlt HY2.out HKB.out
      clear HO2 HY2 HKB
      go_wp2_with fail
      all_goals
        go_roundw
        case rel =>
          obtain ⟨zs, z1, z2, z3⟩ := HT.out
          exact ⟨t + 1, by omega, by simp, ⟨zs, z1, z2⟩, HB2.out.grown z3 HB2.out.size (fun k hk => by cases hk; exact Nat.le_refl _)⟩
        case measure => simp [intOf]; omega
    · have q1 : ¬ (t : Int) < (n : Int) := by omega
      obtain rfl : t = n := by omega
      go_wp2_with fail
      go_ret
      exact ⟨rfl, ys, hown, hys, hbel⟩

set_option maxHeartbeats 2000000 in
theorem laws_eqFNode (k o ck cn : Int) (cs : ByteArray) (ac ar : Int) (af ag : Bool) (bc br : Int) (bf bg : Bool) {KA KB : Option Addr} {kc kb : Nat} {l : List Int} (w : World) (h : IntRow w KA l) (h' : IntRow w KB l) :
    Calls Tryz.prog 75 #[.agg #[.int .i64 k, .int .i64 o, .int .i64 ck, .int .i64 cn, .string cs, .int .i64 ac, .int .i64 ar, .bool af, .bool ag, .int .i64 bc, .int .i64 br, .bool bf, .bool bg, .slice KA l.length kc], .agg #[.int .i64 k, .int .i64 o, .int .i64 ck, .int .i64 cn, .string cs, .int .i64 ac, .int .i64 ar, .bool af, .bool ag, .int .i64 bc, .int .i64 br, .bool bf, .bool bg, .slice KB l.length kb]] w fun e w' => e = .returned (.bool true) ∧ Below w.heap.size w w' := by
  have HI : Hid (IntRow w KA l) := h
  have HI' : Hid (IntRow w KB l) := h'
  clear h h'
  go_enter Tryz.func75, Tryz.ntmps75
  go_wp2_with (first
    | (go_at_call 129; refine (laws_eqValue_same _ _ _ _).mono ?_; rintro e w1 ⟨rfl, hb⟩; obtain ⟨hc, hf, hC, hF, hz, hk, l0, l1⟩ := bk2 (w := w) (by go_grown) (by go_size) hb; clear hb)
    | (go_at_call 130; refine (laws_eqPlace _ _ _ _ _).mono ?_; rintro e w1 ⟨rfl, hb⟩; obtain ⟨hc, hf, hC, hF, hz, hk, l0, l1⟩ := bk2 (w := w) (by go_grown) (by go_size) hb; clear hb))
  refine (laws_eqInt64S _ (HI.out.below (by go_grown)) (HI'.out.below (by go_grown))).mono ?_
  rintro e w9 ⟨rfl, hb⟩
  have K9 : Hid (Below w.heap.size w w9) := bchain (by go_grown) hb
  clear hb
  go_wp2_with fail
  go_ret
  exact ⟨rfl, K9.out⟩

set_option maxHeartbeats 4000000 in
theorem laws_eqFNodeS {A A' : Option Addr} {n cap cap' : Nat} {F : Nat → FN} (w : World) (h : FnRow w A n F) (h' : FnRow w A' n F) :
    Calls Tryz.prog 31 #[.slice A n cap, .slice A' n cap'] w fun e w' => e = .returned (.bool true) ∧ Below w.heap.size w w' := by
  have HR : Hid (FnRow w A n F) := h
  have HR' : Hid (FnRow w A' n F) := h'
  have hn := h.1
  unfold maxLen at hn
  clear h h'
  go_enter Tryz.func31, Tryz.ntmps31
  go_wp2_with fail
  go_loopw [5] (fun i wr => ∃ k : Nat, k ≤ n ∧ i = .int .i64 k ∧ Below w.heap.size w wr) (fun i _ => n - (intOf i).toNat)
  case atStart => exact ⟨0, Nat.zero_le _, rfl, Below.refl _ _⟩
  case round =>
    obtain ⟨k, hk, rfl, hbel⟩ := hrel
    by_cases hlt : k < n
    · obtain ⟨b, o, KA, kc, rfl, hl, hnd, hki, hs⟩ := HR.out.2 k hlt
      obtain ⟨b', o', KB, kb, rfl, hl', hnd', hki', hs'⟩ := HR'.out.2 k hlt
      obtain ⟨c0, c1, c2, c3, c4, c5, c6, c7, c8, c9, c10, c11, c12, c13⟩ := hnd.below hl (W' := wr) hbel
      obtain ⟨d0, d1, d2, d3, d4, d5, d6, d7, d8, d9, d10, d11, d12, d13⟩ := hnd'.below hl' (W' := wr) hbel
      have hll := Nat.lt_of_lt_of_le hl hbel.size
      have hll' := Nat.lt_of_lt_of_le hl' hbel.size
      have HI : Hid (IntRow wr KA (F k).kids) := hki.below hbel
      have HI' : Hid (IntRow wr KB (F k).kids) := hki'.below hbel
      have HB : Hid (Below w.heap.size w wr) := hbel
      clear hnd hnd' hki hki' hbel
      have h0 : (0 : Int) ≤ (k : Int) := by omega
      have h1 : (k : Int) < (n : Int) := by omega
      go_wp2_with fail
      refine wp_region_held_drew (S := (fun w' => (∀ bq oq, bq < wr.heap.size → w'.cell? ⟨bq, oq, none⟩ = wr.cell? ⟨bq, oq, none⟩) ∧ wr.heap.size ≤ w'.heap.size ∧ Below wr.heap.size wr w')) (by kernel_rfl) (sc_of (by go_size) (by go_grown)) (fun hHeld => ?_)
      refine wpAnyH_take (i := 0) (v := ?_) rfl (by kernel_rfl) (by kernel_rfl) (by kernel_rfl) (fun _ _ _ h => h) (Or.inl ⟨by rfl, ?_⟩) (by assumption) ?_
      rotate_left
      · (intro wq hSw; (try dsimp only at hSw); go_simp <;> with_reducible rfl)
      try simp only [Act.put, List.getElem_toArray, List.getElem_cons_zero, List.getElem_cons_succ, List.setIfInBounds_toArray, List.set_cons_zero, List.set_cons_succ]
      refine wpAnyH_take (i := 1) (v := ?_) rfl (by kernel_rfl) (by kernel_rfl) (by kernel_rfl) (fun _ _ _ h => h) (Or.inl ⟨by rfl, ?_⟩) (by assumption) ?_
      rotate_left
      · (intro wq hSw; (try dsimp only at hSw); go_simp <;> with_reducible rfl)
      try simp only [Act.put, List.getElem_toArray, List.getElem_cons_zero, List.getElem_cons_succ, List.setIfInBounds_toArray, List.set_cons_zero, List.set_cons_succ]
      refine wpAnyH_take (i := 2) (v := ?_) rfl (by kernel_rfl) (by kernel_rfl) (by kernel_rfl) (fun _ _ _ h => h) (Or.inl ⟨by rfl, ?_⟩) (by assumption) ?_
      rotate_left
      · (intro wq hSw; (try dsimp only at hSw); go_simp <;> with_reducible rfl)
      try simp only [Act.put, List.getElem_toArray, List.getElem_cons_zero, List.getElem_cons_succ, List.setIfInBounds_toArray, List.set_cons_zero, List.set_cons_succ]
      refine wpAnyH_take (i := 3) (v := ?_) rfl (by kernel_rfl) (by kernel_rfl) (by kernel_rfl) (fun _ _ _ h => h) (Or.inl ⟨by rfl, ?_⟩) (by assumption) ?_
      rotate_left
      · (intro wq hSw; (try dsimp only at hSw); go_simp <;> with_reducible rfl)
      try simp only [Act.put, List.getElem_toArray, List.getElem_cons_zero, List.getElem_cons_succ, List.setIfInBounds_toArray, List.set_cons_zero, List.set_cons_succ]
      refine wpAnyH_take (i := 4) (v := ?_) rfl (by kernel_rfl) (by kernel_rfl) (by kernel_rfl) (fun _ _ _ h => h) (Or.inl ⟨by rfl, ?_⟩) (by assumption) ?_
      rotate_left
      · (intro wq hSw; (try dsimp only at hSw); go_simp <;> with_reducible rfl)
      try simp only [Act.put, List.getElem_toArray, List.getElem_cons_zero, List.getElem_cons_succ, List.setIfInBounds_toArray, List.set_cons_zero, List.set_cons_succ]
      refine wpAnyH_take (i := 5) (v := ?_) rfl (by kernel_rfl) (by kernel_rfl) (by kernel_rfl) (fun _ _ _ h => h) (Or.inl ⟨by rfl, ?_⟩) (by assumption) ?_
      rotate_left
      · (intro wq hSw; (try dsimp only at hSw); go_simp <;> with_reducible rfl)
      try simp only [Act.put, List.getElem_toArray, List.getElem_cons_zero, List.getElem_cons_succ, List.setIfInBounds_toArray, List.set_cons_zero, List.set_cons_succ]
      refine wpAnyH_take (i := 6) (v := ?_) rfl (by kernel_rfl) (by kernel_rfl) (by kernel_rfl) (fun _ _ _ h => h) (Or.inl ⟨by rfl, ?_⟩) (by assumption) ?_
      rotate_left
      · (intro wq hSw; (try dsimp only at hSw); go_simp <;> with_reducible rfl)
      try simp only [Act.put, List.getElem_toArray, List.getElem_cons_zero, List.getElem_cons_succ, List.setIfInBounds_toArray, List.set_cons_zero, List.set_cons_succ]
      refine wpAnyH_take (i := 7) (v := ?_) rfl (by kernel_rfl) (by kernel_rfl) (by kernel_rfl) (fun _ _ _ h => h) (Or.inl ⟨by rfl, ?_⟩) (by assumption) ?_
      rotate_left
      · (intro wq hSw; (try dsimp only at hSw); go_simp <;> with_reducible rfl)
      try simp only [Act.put, List.getElem_toArray, List.getElem_cons_zero, List.getElem_cons_succ, List.setIfInBounds_toArray, List.set_cons_zero, List.set_cons_succ]
      refine wpAnyH_ready (rs := [8]) (by kernel_rfl) (by simp) (AllReadyH.cons rfl (fun Kq hKq => ?_) AllReadyH.nil)
      go_simp
      (refine (laws_eqFNode _ _ _ _ _ _ _ _ _ _ _ _ _ _ (HI.out.below (by go_grown)) (HI'.out.below (by go_grown))).mono ?_; rintro e w1 ⟨rfl, hb⟩; obtain ⟨hk1, hz1⟩ := bframe (B := wr.heap.size) (X := wr) (by go_grown) (by go_size) hb; have hC := fun b o h => hk1.cell (p := ⟨b, o, none⟩) h; clear hb)
      refine hKq.out _ _ ?_ (fun hHeld => ?_)
      · exact sc_of (by go_size) (by go_grown)
      clear hKq Kq
      try simp only [Act.put, List.getElem_toArray, List.getElem_cons_zero, List.getElem_cons_succ, List.setIfInBounds_toArray, List.set_cons_zero, List.set_cons_succ]
      refine wpAnyH_take (i := 9) (v := ?_) rfl (by kernel_rfl) (by kernel_rfl) (by kernel_rfl) (fun _ _ _ h => h) (Or.inl ⟨by rfl, ?_⟩) (by assumption) ?_
      rotate_left
      · (intro wq hSw; (try dsimp only at hSw); go_simp <;> with_reducible rfl)
      try simp only [Act.put, List.getElem_toArray, List.getElem_cons_zero, List.getElem_cons_succ, List.setIfInBounds_toArray, List.set_cons_zero, List.set_cons_succ]
      refine wpAnyH_done (by kernel_rfl) ?_ _
      go_wp2_with fail
      go_roundw
      case rel => exact ⟨k + 1, by omega, by go_num, bchain HB.out (by go_grown)⟩
      case measure => simp [intOf]; omega
    · have h1 : ¬ (k : Int) < (n : Int) := by omega
      go_wp2_with fail
      go_ret
      exact ⟨rfl, hbel⟩
end Go.Proofs.YtpkmboohfomieaaGreatDoor
