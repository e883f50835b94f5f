import Derived.Test.YtpkmboohfomieaaGreatDoorGaa
import Derived.Test.YtpkmboohfomieaaGreatDoorGad
namespace Go.Proofs.YtpkmboohfomieaaGreatDoor
open Go.RowKit

/-! ### A node of a formula, and a row of them -/
structure FN where
  k : Int
  o : Int
  ck : Int
  cn : Int
  cs : ByteArray
  ac : Int
  ar : Int
  af : Bool
  ag : Bool
  bc : Int
  br : Int
  bf : Bool
  bg : Bool
  kids : List Int

/-- The fourteen cells of a node, from the place p of block b on. -/
def NodeAt (W : World) (b p : Nat) (x : FN) (KA : Option Addr) (kc : Nat) : Prop :=
  W.cell? ⟨b, p, none⟩ = some (.int .i64 (x.k)) ∧ W.cell? ⟨b, p + 1, none⟩ = some (.int .i64 (x.o)) ∧ W.cell? ⟨b, p + 2, none⟩ = some (.int .i64 (x.ck)) ∧ W.cell? ⟨b, p + 3, none⟩ = some (.int .i64 (x.cn)) ∧ W.cell? ⟨b, p + 4, none⟩ = some (.string (x.cs)) ∧ W.cell? ⟨b, p + 5, none⟩ = some (.int .i64 (x.ac)) ∧ W.cell? ⟨b, p + 6, none⟩ = some (.int .i64 (x.ar)) ∧ W.cell? ⟨b, p + 7, none⟩ = some (.bool (x.af)) ∧ W.cell? ⟨b, p + 8, none⟩ = some (.bool (x.ag)) ∧ W.cell? ⟨b, p + 9, none⟩ = some (.int .i64 (x.bc)) ∧ W.cell? ⟨b, p + 10, none⟩ = some (.int .i64 (x.br)) ∧ W.cell? ⟨b, p + 11, none⟩ = some (.bool (x.bf)) ∧ W.cell? ⟨b, p + 12, none⟩ = some (.bool (x.bg)) ∧ W.cell? ⟨b, p + 13, none⟩ = some (.slice KA x.kids.length kc)
theorem NodeAt.below {W W' : World} {b p : Nat} {x : FN} {KA : Option Addr} {kc : Nat} (h : NodeAt W b p x KA kc) (hl : b < W.heap.size) (hb : Below W.heap.size W W') : NodeAt W' b p x KA kc := by
  obtain ⟨c0, c1, c2, c3, c4, c5, c6, c7, c8, c9, c10, c11, c12, c13⟩ := h
  exact ⟨(hb.cell (p := ⟨b, _, none⟩) hl).trans c0, (hb.cell (p := ⟨b, _, none⟩) hl).trans c1, (hb.cell (p := ⟨b, _, none⟩) hl).trans c2, (hb.cell (p := ⟨b, _, none⟩) hl).trans c3, (hb.cell (p := ⟨b, _, none⟩) hl).trans c4, (hb.cell (p := ⟨b, _, none⟩) hl).trans c5, (hb.cell (p := ⟨b, _, none⟩) hl).trans c6, (hb.cell (p := ⟨b, _, none⟩) hl).trans c7, (hb.cell (p := ⟨b, _, none⟩) hl).trans c8, (hb.cell (p := ⟨b, _, none⟩) hl).trans c9, (hb.cell (p := ⟨b, _, none⟩) hl).trans c10, (hb.cell (p := ⟨b, _, none⟩) hl).trans c11, (hb.cell (p := ⟨b, _, none⟩) hl).trans c12, (hb.cell (p := ⟨b, _, none⟩) hl).trans c13⟩
def FnRow (W : World) (A : Option Addr) (n : Nat) (F : Nat → FN) : Prop :=
  n ≤ maxLen ∧ ∀ i, i < n → ∃ b o KA kc, A = some ⟨b, o, none⟩ ∧ b < W.heap.size ∧ NodeAt W b (o + i * 14) (F i) KA kc ∧ IntRow W KA (F i).kids ∧ (F i).cs.size ≤ maxLen
theorem FnRow.below {W W' : World} {A : Option Addr} {n : Nat} {F : Nat → FN} (h : FnRow W A n F) (hb : Below W.heap.size W W') : FnRow W' A n F :=
  ⟨h.1, fun i hi => by
    obtain ⟨b, o, KA, kc, e, hl, hn, hk, hs⟩ := h.2 i hi
    exact ⟨b, o, KA, kc, e, Nat.lt_of_lt_of_le hl hb.size, hn.below hl hb, hk.below hb, hs⟩⟩
/-- Below a part of the world alone. -/
theorem FnRow.below' {W W' : World} {B : Nat} {A : Option Addr} {n : Nat} {F : Nat → FN} (h : FnRow W A n F) (hB : W.heap.size ≤ B) (hb : Below B W W') : FnRow W' A n F := h.below (hb.mono hB)
def nodeL (x : FN) (KA : Option Addr) (kc : Nat) : List Value := [.int .i64 (x.k), .int .i64 (x.o), .int .i64 (x.ck), .int .i64 (x.cn), .string (x.cs), .int .i64 (x.ac), .int .i64 (x.ar), .bool (x.af), .bool (x.ag), .int .i64 (x.bc), .int .i64 (x.br), .bool (x.bf), .bool (x.bg), .slice KA x.kids.length kc]

theorem infoFn : (Tryz.prog.info? 60).map (fun i => (i.zero, i.size, i.bytes)) = some (some (.agg #[.int .i64 0, .int .i64 0, .int .i64 0, .int .i64 0, .string ⟨#[]⟩, .int .i64 0, .int .i64 0, .bool false, .bool false, .int .i64 0, .int .i64 0, .bool false, .bool false, .slice none 0 0]), 14, 120) := by kernel_rfl

set_option maxHeartbeats 2000000 in
theorem laws_toPlace (c r : Int) (x y : Bool) (w : World) : Calls Tryz.prog 135 #[.agg #[.int .i64 c, .int .i64 r, .bool x, .bool y]] w fun e w' =>
    e = .returned (.agg #[.int .i64 c, .int .i64 r, .bool x, .bool y]) ∧ Below w.heap.size w w' := by
  go_enter Tryz.func135, Tryz.ntmps135
  go_wp2_with (go_at_call 164; refine (laws_toRef _ _ _).mono ?_; rintro e w1 ⟨rfl, hb⟩; obtain ⟨hc, hf, hC, hF, hz, hk, l0, l1, l2⟩ := bk3 (w := w) (by go_grown) (by go_size) hb; clear hb)
  refine bodyPost_ret (v := .agg #[.int .i64 c, .int .i64 r, .bool x, .bool y]) ?_ rfl ⟨rfl, by go_grown⟩
  simp (maxDischargeDepth := 9) [results, Tryz.results135, go_sem, *]

set_option maxHeartbeats 2000000 in
theorem laws_eqPlace (c r : Int) (x y : Bool) (w : World) : Calls Tryz.prog 130 #[.agg #[.int .i64 c, .int .i64 r, .bool x, .bool y], .agg #[.int .i64 c, .int .i64 r, .bool x, .bool y]] w fun e w' =>
    e = .returned (.bool true) ∧ Below w.heap.size w w' := by
  go_enter Tryz.func130, Tryz.ntmps130
  go_wp2_with (go_at_call 163; refine (laws_eqRef _ _ _).mono ?_; rintro e w1 ⟨rfl, hb⟩; obtain ⟨hc, hf, hC, hF, hz, hk, l0, l1⟩ := bk2 (w := w) (by go_grown) (by go_size) hb; clear hb)
  all_goals
    go_ret
    exact ⟨rfl, by go_grown⟩

set_option maxHeartbeats 1000000 in
theorem laws_szFNode (k o ck cn : Int) (cs : ByteArray) (ac ar : Int) (af ag : Bool) (bc br : Int) (bf bg : Bool) {KA : Option Addr} {kl kc : Nat} (l : Int) (w : World) (hs : cs.size ≤ maxLen) (HKL : Hid (kl ≤ maxLen)) (h0 : 0 ≤ l) (h1 : l ≤ 1048576) :
    Calls Tryz.prog 79 #[.agg #[.int .i64 k, .int .i64 o, .int .i64 ck, .int .i64 cn, .string cs, .int .i64 ac, .int .i64 ar, .bool af, .bool ag, .int .i64 bc, .int .i64 br, .bool bf, .bool bg, .slice KA kl kc], .int .i64 l] w fun e w' => ∃ z : Int, e = .returned (.int .i64 z) ∧ z ≤ 1048576 ∧ (0 ≤ z → kl ≤ 1048576) ∧ Below w.heap.size w w' := by
  by_cases hz : szv l cs.size < 0
  · go_enter Tryz.func79, Tryz.ntmps79
    go_wp2_with (go_at_call 132; refine (laws_szValue _ _ _ _ _ hs h0 h1).mono ?_; rintro e w1 ⟨rfl, hb⟩; obtain ⟨hc, hf, hC, hF, hz, hk, l0⟩ := bk1 (w := w) (by go_grown) (by go_size) hb; clear hb)
    go_ret
    exact ⟨_, rfl, by omega, fun h => by omega, by go_grown⟩
  have hz1 : szv l cs.size ≤ 1048576 := by unfold szv; split <;> omega
  have hz0 : 0 ≤ szv l cs.size := by omega
  clear hz
  by_cases hq : szn (szv l cs.size) kl < 0
  · go_enter Tryz.func79, Tryz.ntmps79
    go_wp2_with (first
      | (go_at_call 132; refine (laws_szValue _ _ _ _ _ hs h0 h1).mono ?_; rintro e w1 ⟨rfl, hb⟩; obtain ⟨hc, hf, hC, hF, hz, hk, l0⟩ := bk1 (w := w) (by go_grown) (by go_size) hb; clear hb)
      | (go_at_call 133; refine (laws_szInt64S _ _ HKL.out hz0 hz1).mono ?_; rintro e w1 ⟨rfl, rfl⟩))
    go_ret
    exact ⟨_, rfl, by omega, fun h => by omega, by go_grown⟩
  · have HQ : Hid (szn (szv l cs.size) kl ≤ 1048576 ∧ kl ≤ 1048576) := by
      show _ ∧ _
      unfold szn at hq ⊢
      split at hq <;> rename_i hh
      · omega
      · rw [if_neg hh]; omega
    go_enter Tryz.func79, Tryz.ntmps79
    go_wp2_with (first
      | (go_at_call 132; refine (laws_szValue _ _ _ _ _ hs h0 h1).mono ?_; rintro e w1 ⟨rfl, hb⟩; obtain ⟨hc, hf, hC, hF, hz, hk, l0⟩ := bk1 (w := w) (by go_grown) (by go_size) hb; clear hb)
      | (go_at_call 133; refine (laws_szInt64S _ _ HKL.out hz0 hz1).mono ?_; rintro e w1 ⟨rfl, rfl⟩))
    go_ret
    exact ⟨_, rfl, HQ.out.1, fun _ => HQ.out.2, by go_grown⟩

set_option maxHeartbeats 2000000 in
theorem laws_szFNodeS {A : Option Addr} {n cap : Nat} {F : Nat → FN} (w : World) (h : FnRow w A n F) :
    Calls Tryz.prog 34 #[.slice A n cap, .int .i64 1048576] w fun e w' => ∃ z : Int, e = .returned (.int .i64 z) ∧ (0 ≤ z → n ≤ 1048576 ∧ ∀ i, i < n → (F i).kids.length ≤ 1048576) ∧ Below w.heap.size w w' := by
  have HR : Hid (FnRow w A n F) := h
  have hm := h.1
  clear h
  unfold maxLen at hm
  by_cases hbig : (1048576 : Int) - (n : Int) < 0
  · go_enter Tryz.func34, Tryz.ntmps34
    go_wp2_with fail
    go_ret
    exact ⟨-1, rfl, fun h => by omega, by go_grown⟩
  · go_enter Tryz.func34, Tryz.ntmps34
    go_wp2_with fail
    go_loopw [1, 5] (fun l i wr => ∃ (t : Nat) (z : Int), t ≤ n ∧ i = .int .i64 t ∧ l = .int .i64 z ∧ 0 ≤ z ∧ z ≤ 1048576 ∧ (∀ i, i < t → (F i).kids.length ≤ 1048576) ∧ Below w.heap.size w wr) (fun _ i _ => n - (intOf i).toNat)
    case atStart => exact ⟨0, _, Nat.zero_le _, rfl, rfl, by omega, by omega, fun i hi => by omega, Below.refl _ _⟩
    case round =>
      obtain ⟨t, z, ht, rfl, rfl, z0, z1, hkd, hbel⟩ := hrel
      have HKD : Hid (∀ i, i < t → (F i).kids.length ≤ 1048576) := hkd
      clear hkd
      by_cases hlt : t < n
      · obtain ⟨b, o, KA, kc, rfl, hl, hnd, hki, hs⟩ := HR.out.2 t hlt
        obtain ⟨c0, c1, c2, c3, c4, c5, c6, c7, c8, c9, c10, c11, c12, c13⟩ := hnd.below hl (W' := wr) hbel
        have HKM : Hid ((F t).kids.length ≤ maxLen) := hki.1
        have q0 : (0 : Int) ≤ (t : Int) := by omega
        have q1 : (t : Int) < (n : Int) := by omega
        have HB : Hid (Below w.heap.size w wr) := hbel
        clear hbel hki hnd
        go_wp2_with fail
        refine (laws_szFNode _ _ _ _ _ _ _ _ _ _ _ _ _ _ _ hs HKM z0 z1).mono ?_
        rintro e w2 ⟨y, rfl, hy1, hy2, hb⟩
        have HB2 : Hid (Below w.heap.size w w2) := bchain HB.out hb
        have HY : Hid (0 ≤ y → (F t).kids.length ≤ 1048576) := hy2
        clear hb hy2 c0 c1 c2 c3 c4 c5 c6 c7 c8 c9 c10 c11 c12 c13
        by_cases hz : y < 0
        · go_wp2_with fail
          go_ret
          exact ⟨_, rfl, fun h => by omega, HB2.out⟩
        · go_wp2_with fail
          go_roundw
          case rel => exact ⟨t + 1, _, by omega, by go_num, rfl, by omega, hy1, fun i hi => by
            by_cases e : i = t
            · subst e; exact HY.out (by omega)
            · exact HKD.out i (by omega), HB2.out⟩
          case measure => simp [intOf]; omega
      · have q1 : ¬ (t : Int) < (n : Int) := by omega
        obtain rfl : t = n := by omega
        go_wp2_with fail
        go_ret
        exact ⟨_, rfl, fun _ => ⟨by omega, HKD.out⟩, hbel⟩
end Go.Proofs.YtpkmboohfomieaaGreatDoor
