import Derived.Test.YtljbnbapmjoecaaGreatDoorTxA
namespace Go.Proofs.YtljbnbapmjoecaaGreatDoor
open Go.RowKit
set_option linter.unusedSimpArgs false
set_option linter.unusedVariables false

/-- A node as a value. -/
def ndV (x : FN) (KA : Option Addr) (kc : Nat) : Value := .agg #[.int .i64 x.k, .int .i64 x.o, .int .i64 x.ck, .int .i64 x.cn, .string x.cs, .int .i64 x.ac, .int .i64 x.ar, .bool x.af, .bool x.ag, .int .i64 x.bc, .int .i64 x.br, .bool x.bf, .bool x.bg, .slice KA x.kids.length kc]
/-- What impl.nodeText and impl.boundText answer at a node. -/
def NtC (A : Option Addr) (n cap : Nat) (F : Nat → FN) (i : Nat) : Prop := ∀ (W : World) (KA : Option Addr) (kc : Nat), FnRow W A n F → GT W → IntRow W KA (F i).kids →
  Calls Tryz.prog 38 #[.slice A n cap, ndV (F i) KA kc] W fun e w' => e = .returned (.string (bs (TX F i))) ∧ Below W.heap.size W w'
def BtC (A : Option Addr) (n cap : Nat) (F : Nat → FN) (i : Nat) (z : Int) : Prop := ∀ (W : World) (KA : Option Addr) (kc : Nat), FnRow W A n F → GT W → IntRow W KA (F i).kids →
  Calls Tryz.prog 84 #[.slice A n cap, ndV (F i) KA kc, .int .i64 z] W fun e w' => e = .returned (.string (bs (bdX F i z))) ∧ Below W.heap.size W w'

set_option maxHeartbeats 2000000 in
theorem impl_nt1 (o ck cn : Int) (cs : ByteArray) (ac ar : Int) (af ag : Bool) (bc br : Int) (bf bg : Bool) {KA : Option Addr} {kl kc : Nat} {A : Option Addr} {n cap : Nat} (w : World) (hs : cs.size ≤ maxLen) (hc : cOk ck cn cs = true) (hg : GT w) : Calls Tryz.prog 38 #[.slice A n cap, .agg #[.int .i64 1, .int .i64 o, .int .i64 ck, .int .i64 cn, .string cs, .int .i64 ac, .int .i64 ar, .bool af, .bool ag, .int .i64 bc, .int .i64 br, .bool bf, .bool bg, .slice KA kl kc]] w fun e w' =>
    e = .returned (.string (bs (cstT ck cn cs))) ∧ Below w.heap.size w w' := by
  have HG : Hid (GT w) := hg
  have HC : Hid (cOk ck cn cs = true) := hc
  have HS : Hid (cs.size ≤ maxLen) := hs
  clear hg hc hs
  go_enter Tryz.func38, Tryz.ntmps38
  go_wp2_with fail
  refine (impl_constText ck cn cs _ HS.out HC.out (HG.out.below (by go_grown))).mono ?_
  rintro e w1 ⟨rfl, hb⟩
  have K1 := bchain (w := w) (by go_grown) hb
  go_wp2_with fail
  go_ret
  exact ⟨rfl, K1⟩

set_option maxHeartbeats 2000000 in
theorem impl_nt2 (o ck cn : Int) (cs : ByteArray) (ac : Int) (i : Nat) (af ag : Bool) (bc br : Int) (bf bg : Bool) {KA : Option Addr} {kl kc : Nat} {A : Option Addr} {n cap : Nat} (w : World) (hi : i < 100) (ho : refOkB ac i = true) : Calls Tryz.prog 38 #[.slice A n cap, .agg #[.int .i64 2, .int .i64 o, .int .i64 ck, .int .i64 cn, .string cs, .int .i64 ac, .int .i64 i, .bool af, .bool ag, .int .i64 bc, .int .i64 br, .bool bf, .bool bg, .slice KA kl kc]] w fun e w' =>
    e = .returned (.string (placeT ac i af ag)) ∧ Below w.heap.size w w' := by
  have HO : Hid (refOkB ac i = true) := ho
  clear ho
  go_enter Tryz.func38, Tryz.ntmps38
  go_wp2_with fail
  refine (impl_PlaceText_ok ac i af ag _ hi HO.out).mono ?_
  rintro e w1 ⟨rfl, hb⟩
  have K1 := bchain (w := w) (by go_grown) hb
  go_wp2_with fail
  go_ret
  exact ⟨rfl, K1⟩

theorem pl_size (c : Int) (i : Nat) (x y : Bool) : (placeT c i x y).size ≤ 6 := by
  rw [placeT, ByteArray.size_append, ByteArray.size_append, ByteArray.size_append]
  have h1 := fx_size x
  have h2 := fx_size y
  have h3 := colT_size c
  have h4 := decS_size i
  omega
set_option maxHeartbeats 4000000 in
theorem impl_nt3 (o ck cn : Int) (cs : ByteArray) (ac : Int) (i : Nat) (af ag : Bool) (bc : Int) (j : Nat) (bf bg : Bool) {KA : Option Addr} {kl kc : Nat} {A : Option Addr} {n cap : Nat} (w : World) (hi : i < 100) (ho : refOkB ac i = true) (hj : j < 100) (ho' : refOkB bc j = true) : Calls Tryz.prog 38 #[.slice A n cap, .agg #[.int .i64 3, .int .i64 o, .int .i64 ck, .int .i64 cn, .string cs, .int .i64 ac, .int .i64 i, .bool af, .bool ag, .int .i64 bc, .int .i64 j, .bool bf, .bool bg, .slice KA kl kc]] w fun e w' =>
    e = .returned (.string (placeT ac i af ag ++ (⟨#[58]⟩ : ByteArray) ++ placeT bc j bf bg)) ∧ Below w.heap.size w w' := by
  have HO : Hid (refOkB ac i = true) := ho
  have HP : Hid (refOkB bc j = true) := ho'
  clear ho ho'
  obtain ⟨p, HPP⟩ : ∃ p, Hid (placeT ac i af ag = p) := ⟨_, rfl⟩
  obtain ⟨q, HQQ⟩ : ∃ q, Hid (placeT bc j bf bg = q) := ⟨_, rfl⟩
  have hp : p.size ≤ 6 := by have := pl_size ac i af ag; rw [HPP.out] at this; exact this
  have hq : q.size ≤ 6 := by have := pl_size bc j bf bg; rw [HQQ.out] at this; exact this
  rw [HPP.out, HQQ.out]
  obtain ⟨r1, r2⟩ : (∀ W, (Op.stringOp .add p (⟨#[58]⟩ : ByteArray)).run Tryz.prog W = .ok (.string (p ++ (⟨#[58]⟩ : ByteArray))) W) ∧ (∀ W, (Op.stringOp .add (p ++ (⟨#[58]⟩ : ByteArray)) q).run Tryz.prog W = .ok (.string (p ++ (⟨#[58]⟩ : ByteArray) ++ q)) W) := by
    have h1 : (⟨#[58]⟩ : ByteArray).size = 1 := rfl
    refine ⟨fun W => run_string_add_sum W _ _ ?_, fun W => run_string_add_sum W _ _ ?_⟩
    · omega
    · rw [ByteArray.size_append]; omega
  go_enter Tryz.func38, Tryz.ntmps38
  go_wp2_with fail
  go_region_held3 (fun w' => (∀ bq oq, bq < w.heap.size + 1 → w'.cell? ⟨bq, oq, none⟩ = (w.alloc (.cells #[.int .i64 3, .int .i64 o, .int .i64 ck, .int .i64 cn, .string cs, .int .i64 ac, .int .i64 i, .bool af, .bool ag, .int .i64 bc, .int .i64 j, .bool bf, .bool bg, .slice KA kl kc] 60)).cell? ⟨bq, oq, none⟩) ∧ w.heap.size + 1 ≤ w'.heap.size ∧ Below (w.heap.size + 1) (w.alloc (.cells #[.int .i64 3, .int .i64 o, .int .i64 ck, .int .i64 cn, .string cs, .int .i64 ac, .int .i64 i, .bool af, .bool ag, .int .i64 bc, .int .i64 j, .bool bf, .bool bg, .slice KA kl kc] 60)) w')
    (exact sc_of (by go_size) (by go_grown))
    (first
    | (go_at_call_of 83 (Value.agg #[Value.int IntKind.i64 ac, Value.int IntKind.i64 (i : Int), Value.bool af, Value.bool ag]); refine (impl_PlaceText_ok ac i af ag _ hi HO.out).mono ?_; rintro e wr ⟨rfl, hb⟩; rw [HPP.out]; obtain ⟨hk, hz⟩ := bframe (B := w.heap.size + 1) (X := (w.alloc (.cells #[.int .i64 3, .int .i64 o, .int .i64 ck, .int .i64 cn, .string cs, .int .i64 ac, .int .i64 i, .bool af, .bool ag, .int .i64 bc, .int .i64 j, .bool bf, .bool bg, .slice KA kl kc] 60))) (by go_grown) (by go_size) hb; have hC := fun b o h => hk.cell (p := ⟨b, o, none⟩) h; clear hb)
    | (go_at_call_of 83 (Value.agg #[Value.int IntKind.i64 bc, Value.int IntKind.i64 (j : Int), Value.bool bf, Value.bool bg]); refine (impl_PlaceText_ok bc j bf bg _ hj HP.out).mono ?_; rintro e wr ⟨rfl, hb⟩; rw [HQQ.out]; obtain ⟨hk, hz⟩ := bframe (B := w.heap.size + 1) (X := (w.alloc (.cells #[.int .i64 3, .int .i64 o, .int .i64 ck, .int .i64 cn, .string cs, .int .i64 ac, .int .i64 i, .bool af, .bool ag, .int .i64 bc, .int .i64 j, .bool bf, .bool bg, .slice KA kl kc] 60))) (by go_grown) (by go_size) hb; have hC := fun b o h => hk.cell (p := ⟨b, o, none⟩) h; clear hb))
  all_goals go_wp2_with fail
  all_goals go_ret
  all_goals exact ⟨rfl, bfin (n := 1) (X := (w.alloc (.cells #[.int .i64 3, .int .i64 o, .int .i64 ck, .int .i64 cn, .string cs, .int .i64 ac, .int .i64 i, .bool af, .bool ag, .int .i64 bc, .int .i64 j, .bool bf, .bool bg, .slice KA kl kc] 60))) (by go_grown) (by go_grown)⟩

set_option maxRecDepth 100000 in
set_option maxHeartbeats 4000000 in
theorem impl_nt4 {A : Option Addr} {n cap : Nat} {F : Nat → FN} {i a : Nat} (hk : (F i).k = 4) (hg : (F i).kids = [(a : Int)]) (ha : a < n) (hB : BtC A n cap F a 5) (hz : (bdX F a 5).length ≤ 116977784950520) (W : World) (KA : Option Addr) (kc : Nat) (hr : FnRow W A n F) (hgt : GT W) (hki : IntRow W KA (F i).kids) :
    Calls Tryz.prog 38 #[.slice A n cap, ndV (F i) KA kc] W fun e w' => e = .returned (.string (bs ([45] ++ bdX F a 5))) ∧ Below W.heap.size W w' := by
  have HR : Hid (FnRow W A n F) := hr
  have HG : Hid (GT W) := hgt
  have HB : Hid (BtC A n cap F a 5) := hB
  have hn := hr.1
  unfold maxLen at hn
  rw [hg] at hki
  obtain ⟨b1, o1, rfl, hl1, e1⟩ := hki.2 0 (by simp)
  simp only [List.getD_cons_zero, Nat.add_zero] at e1
  obtain ⟨b, p, KB, kb, rfl, hl, hnd, hks, hcs⟩ := hr.2 a ha
  obtain ⟨c0, c1, c2, c3, c4, c5, c6, c7, c8, c9, c10, c11, c12, c13⟩ := hnd
  have HK : Hid (IntRow W KB (F a).kids) := hks
  clear hki hr hgt hB hks hcs
  unfold ndV
  rw [hk, hg]
  simp only [List.length_cons, List.length_nil]
  obtain ⟨t, HT⟩ : ∃ t, Hid (bs (bdX F a 5) = t) := ⟨_, rfl⟩
  have ht : t.size ≤ 116977784950520 := by rw [← HT.out, bs_size]; exact hz
  have z1 : ¬ 9223372036854775807 < 1 + t.size := by omega
  have HF : Hid ((⟨#[45]⟩ : ByteArray) ++ t = bs ([45] ++ bdX F a 5)) := by
    show _ = _
    rw [← HT.out, show (⟨#[45]⟩ : ByteArray) = bs [45] from rfl, bs_app]
  have a0 : (0 : Int) ≤ (a : Int) := by omega
  have a1 : (a : Int) < (n : Int) := by omega
  clear hg hz
  go_enter Tryz.func38, Tryz.ntmps38
  go_wp2_with fail
  refine (HB.out _ KB kb (HR.out.below (by go_grown)) (HG.out.below (by go_grown)) (HK.out.below (by go_grown))).mono ?_
  rintro e w1 ⟨rfl, hb⟩
  rw [HT.out]
  have K1 := bchain (w := W) (by go_grown) hb
  clear hb
  go_wp2_with fail
  go_ret
  exact ⟨ret_str HF.out, K1⟩

set_option maxRecDepth 100000 in
set_option maxHeartbeats 8000000 in
theorem impl_nt5 {A : Option Addr} {n cap : Nat} {F : Nat → FN} {i a b : Nat} (hk : (F i).k = 5) (hg : (F i).kids = [(a : Int), (b : Int)]) (ho : 1 ≤ (F i).o ∧ (F i).o ≤ 11) (ha : a < n) (hb : b < n) (hA : BtC A n cap F a (lvl (F i).o)) (hB : BtC A n cap F b (lvl (F i).o + 1)) (hza : (bdX F a (lvl (F i).o)).length ≤ 116977784950520) (hzb : (bdX F b (lvl (F i).o + 1)).length ≤ 116977784950520) (W : World) (KA : Option Addr) (kc : Nat) (hr : FnRow W A n F) (hgt : GT W) (hki : IntRow W KA (F i).kids) :
    Calls Tryz.prog 38 #[.slice A n cap, ndV (F i) KA kc] W fun e w' => e = .returned (.string (bs (bdX F a (lvl (F i).o) ++ sgT (F i).o ++ bdX F b (lvl (F i).o + 1)))) ∧ Below W.heap.size W w' := by
  have HR : Hid (FnRow W A n F) := hr
  have HG : Hid (GT W) := hgt
  have HA : Hid (BtC A n cap F a (lvl (F i).o)) := hA
  have HB : Hid (BtC A n cap F b (lvl (F i).o + 1)) := hB
  have hn := hr.1
  unfold maxLen at hn
  rw [hg] at hki
  obtain ⟨b1, o1, rfl, hl1, e1⟩ := hki.2 0 (by simp)
  obtain ⟨b2, o2, e9, _, e2⟩ := hki.2 1 (by simp)
  cases e9
  simp only [List.getD_cons_zero, List.getD_cons_succ, Nat.add_zero] at e1 e2
  obtain ⟨q, p, KB, kb, rfl, hl, hnd, hks, _⟩ := hr.2 a ha
  obtain ⟨c0, c1, c2, c3, c4, c5, c6, c7, c8, c9, c10, c11, c12, c13⟩ := hnd
  obtain ⟨q', p', KC, kd, e9, _, hnd, hks', _⟩ := hr.2 b hb
  cases e9
  obtain ⟨d0, d1, d2, d3, d4, d5, d6, d7, d8, d9, d10, d11, d12, d13⟩ := hnd
  have HK : Hid (IntRow W KB (F a).kids) := hks
  have HK' : Hid (IntRow W KC (F b).kids) := hks'
  clear hki hr hgt hB hks hA hks'
  obtain ⟨m, HM⟩ : ∃ m : Nat, Hid ((F i).o = (m : Int)) := ⟨(F i).o.toNat, by show _ = _; omega⟩
  have hm : 1 ≤ m ∧ m ≤ 11 := by rw [HM.out] at ho; omega
  obtain ⟨t0, t1⟩ := HG.out.ot m hm.2
  have hgl := HG.out.ot.lt
  have hgl2 : 0 < W.heap.size := Nat.lt_of_le_of_lt (Nat.zero_le _) hgl
  have hbn : bnO m = lvl (m : Int) := by unfold bnO; rw [if_neg (by omega)]
  rw [hbn] at t1
  clear hbn
  obtain ⟨hL1, hL4⟩ := lvl_pos (m : Int)
  rw [HM.out] at HA HB hza hzb ⊢
  unfold ndV
  rw [hk, hg, HM.out]
  simp only [List.length_cons, List.length_nil]
  obtain ⟨L, HL⟩ : ∃ L, Hid (lvl (m : Int) = L) := ⟨_, rfl⟩
  rw [HL.out] at t1 hL1 hL4 HA HB hza hzb ⊢
  obtain ⟨sg, HSG⟩ : ∃ s, Hid (bs (sgT (m : Int)) = s) := ⟨_, rfl⟩
  have hsg : sg.size ≤ 2 := by rw [← HSG.out, bs_size]; exact sgT_len _
  rw [HSG.out] at t0
  obtain ⟨t, HT⟩ : ∃ t, Hid (bs (bdX F a L) = t) := ⟨_, rfl⟩
  obtain ⟨u, HU⟩ : ∃ t, Hid (bs (bdX F b (L + 1)) = t) := ⟨_, rfl⟩
  have ht : t.size ≤ 116977784950520 := by rw [← HT.out, bs_size]; exact hza
  have hu : u.size ≤ 116977784950520 := by rw [← HU.out, bs_size]; exact hzb
  obtain ⟨r1, r2⟩ : (∀ W, (Op.stringOp .add t sg).run Tryz.prog W = .ok (.string (t ++ sg)) W) ∧ (∀ W, (Op.stringOp .add (t ++ sg) u).run Tryz.prog W = .ok (.string (t ++ sg ++ u)) W) := by
    refine ⟨fun W => run_string_add_sum W _ _ ?_, fun W => run_string_add_sum W _ _ ?_⟩
    · omega
    · rw [ByteArray.size_append]; omega
  have HF : Hid (t ++ sg ++ u = bs (bdX F a L ++ sgT (m : Int) ++ bdX F b (L + 1))) := by
    show _ = _
    rw [← HT.out, ← HU.out, ← HSG.out, bs_app, bs_app]
  have hwr : IntKind.i64.wrap (L + 1) = L + 1 := by rw [IntKind.wrap_i64]; omega
  have a0 : (0 : Int) ≤ (a : Int) := by omega
  have a1 : (a : Int) < (n : Int) := by omega
  have lA : b1 < W.heap.size + 2 := by omega
  have lB : q < W.heap.size + 2 := by omega
  have lA1 : b1 < W.heap.size + 1 := by omega
  have lB1 : q < W.heap.size + 1 := by omega
  have bb0 : (0 : Int) ≤ (b : Int) := by omega
  have bb1 : (b : Int) < (n : Int) := by omega
  have m0 : (0 : Int) ≤ (m : Int) := by omega
  have m1 : (m : Int) < 12 := by omega
  clear hza hzb hg ho
  go_enter Tryz.func38, Tryz.ntmps38
  go_wp2_with fail
  go_region_held3 (fun w' => (∀ bq oq, bq < W.heap.size + 2 → w'.cell? ⟨bq, oq, none⟩ = ((W.alloc (.cells #[.int .i64 5, .int .i64 m, .int .i64 (F i).ck, .int .i64 (F i).cn, .string (F i).cs, .int .i64 (F i).ac, .int .i64 (F i).ar, .bool (F i).af, .bool (F i).ag, .int .i64 (F i).bc, .int .i64 (F i).br, .bool (F i).bf, .bool (F i).bg, .slice (some ⟨b1, o1, none⟩) 2 kc] 60)).alloc (.cells #[.string sg, .int .i64 L] 109)).cell? ⟨bq, oq, none⟩) ∧ W.heap.size + 2 ≤ w'.heap.size ∧ Below (W.heap.size + 2) ((W.alloc (.cells #[.int .i64 5, .int .i64 m, .int .i64 (F i).ck, .int .i64 (F i).cn, .string (F i).cs, .int .i64 (F i).ac, .int .i64 (F i).ar, .bool (F i).af, .bool (F i).ag, .int .i64 (F i).bc, .int .i64 (F i).br, .bool (F i).bf, .bool (F i).bg, .slice (some ⟨b1, o1, none⟩) 2 kc] 60)).alloc (.cells #[.string sg, .int .i64 L] 109)) w')
    (exact sc_of (by go_size) (by go_grown))
    (first
    | (go_at_call_of 84 (Value.int .i64 L); refine (HA.out _ KB kb (HR.out.below (bfin (n := 2) (X := ((W.alloc (.cells #[.int .i64 5, .int .i64 m, .int .i64 (F i).ck, .int .i64 (F i).cn, .string (F i).cs, .int .i64 (F i).ac, .int .i64 (F i).ar, .bool (F i).af, .bool (F i).ag, .int .i64 (F i).bc, .int .i64 (F i).br, .bool (F i).bf, .bool (F i).bg, .slice (some ⟨b1, o1, none⟩) 2 kc] 60)).alloc (.cells #[.string sg, .int .i64 L] 109))) (by go_grown) (by go_grown))) (HG.out.below (bfin (n := 2) (X := ((W.alloc (.cells #[.int .i64 5, .int .i64 m, .int .i64 (F i).ck, .int .i64 (F i).cn, .string (F i).cs, .int .i64 (F i).ac, .int .i64 (F i).ar, .bool (F i).af, .bool (F i).ag, .int .i64 (F i).bc, .int .i64 (F i).br, .bool (F i).bf, .bool (F i).bg, .slice (some ⟨b1, o1, none⟩) 2 kc] 60)).alloc (.cells #[.string sg, .int .i64 L] 109))) (by go_grown) (by go_grown))) (HK.out.below (bfin (n := 2) (X := ((W.alloc (.cells #[.int .i64 5, .int .i64 m, .int .i64 (F i).ck, .int .i64 (F i).cn, .string (F i).cs, .int .i64 (F i).ac, .int .i64 (F i).ar, .bool (F i).af, .bool (F i).ag, .int .i64 (F i).bc, .int .i64 (F i).br, .bool (F i).bf, .bool (F i).bg, .slice (some ⟨b1, o1, none⟩) 2 kc] 60)).alloc (.cells #[.string sg, .int .i64 L] 109))) (by go_grown) (by go_grown)))).mono ?_; rintro e wr ⟨rfl, hb⟩; rw [HT.out]; obtain ⟨hkk, hzz⟩ := bframe (B := W.heap.size + 2) (X := ((W.alloc (.cells #[.int .i64 5, .int .i64 m, .int .i64 (F i).ck, .int .i64 (F i).cn, .string (F i).cs, .int .i64 (F i).ac, .int .i64 (F i).ar, .bool (F i).af, .bool (F i).ag, .int .i64 (F i).bc, .int .i64 (F i).br, .bool (F i).bf, .bool (F i).bg, .slice (some ⟨b1, o1, none⟩) 2 kc] 60)).alloc (.cells #[.string sg, .int .i64 L] 109))) (by go_grown) (by go_size) hb; have hC := fun b o h => hkk.cell (p := ⟨b, o, none⟩) h; clear hb)
    | (go_at_call 84; refine (HB.out _ KC kd (HR.out.below (bfin (n := 2) (X := ((W.alloc (.cells #[.int .i64 5, .int .i64 m, .int .i64 (F i).ck, .int .i64 (F i).cn, .string (F i).cs, .int .i64 (F i).ac, .int .i64 (F i).ar, .bool (F i).af, .bool (F i).ag, .int .i64 (F i).bc, .int .i64 (F i).br, .bool (F i).bf, .bool (F i).bg, .slice (some ⟨b1, o1, none⟩) 2 kc] 60)).alloc (.cells #[.string sg, .int .i64 L] 109))) (by go_grown) (by go_grown))) (HG.out.below (bfin (n := 2) (X := ((W.alloc (.cells #[.int .i64 5, .int .i64 m, .int .i64 (F i).ck, .int .i64 (F i).cn, .string (F i).cs, .int .i64 (F i).ac, .int .i64 (F i).ar, .bool (F i).af, .bool (F i).ag, .int .i64 (F i).bc, .int .i64 (F i).br, .bool (F i).bf, .bool (F i).bg, .slice (some ⟨b1, o1, none⟩) 2 kc] 60)).alloc (.cells #[.string sg, .int .i64 L] 109))) (by go_grown) (by go_grown))) (HK'.out.below (bfin (n := 2) (X := ((W.alloc (.cells #[.int .i64 5, .int .i64 m, .int .i64 (F i).ck, .int .i64 (F i).cn, .string (F i).cs, .int .i64 (F i).ac, .int .i64 (F i).ar, .bool (F i).af, .bool (F i).ag, .int .i64 (F i).bc, .int .i64 (F i).br, .bool (F i).bf, .bool (F i).bg, .slice (some ⟨b1, o1, none⟩) 2 kc] 60)).alloc (.cells #[.string sg, .int .i64 L] 109))) (by go_grown) (by go_grown)))).mono ?_; rintro e wr ⟨rfl, hb⟩; rw [HU.out]; obtain ⟨hkk, hzz⟩ := bframe (B := W.heap.size + 2) (X := ((W.alloc (.cells #[.int .i64 5, .int .i64 m, .int .i64 (F i).ck, .int .i64 (F i).cn, .string (F i).cs, .int .i64 (F i).ac, .int .i64 (F i).ar, .bool (F i).af, .bool (F i).ag, .int .i64 (F i).bc, .int .i64 (F i).br, .bool (F i).bf, .bool (F i).bg, .slice (some ⟨b1, o1, none⟩) 2 kc] 60)).alloc (.cells #[.string sg, .int .i64 L] 109))) (by go_grown) (by go_size) hb; have hC := fun b o h => hkk.cell (p := ⟨b, o, none⟩) h; clear hb))
  all_goals go_wp2_with fail
  all_goals go_ret
  all_goals exact ⟨ret_str HF.out, bfin (n := 2) (X := ((W.alloc (.cells #[.int .i64 5, .int .i64 m, .int .i64 (F i).ck, .int .i64 (F i).cn, .string (F i).cs, .int .i64 (F i).ac, .int .i64 (F i).ar, .bool (F i).af, .bool (F i).ag, .int .i64 (F i).bc, .int .i64 (F i).br, .bool (F i).bf, .bool (F i).bg, .slice (some ⟨b1, o1, none⟩) 2 kc] 60)).alloc (.cells #[.string sg, .int .i64 L] 109))) (by go_grown) (by go_grown)⟩

set_option maxHeartbeats 2000000 in
theorem impl_bt {A : Option Addr} {n cap : Nat} {F : Nat → FN} {i : Nat} (z : Int) (hn : NtC A n cap F i) (hx : (F i).k = 5 → 1 ≤ (F i).o ∧ (F i).o ≤ 11) (hz : (TX F i).length ≤ 116977784950510) : BtC A n cap F i z := by
  intro W KA kc hr hg hk
  have HR : Hid (FnRow W A n F) := hr
  have HG : Hid (GT W) := hg
  have HK : Hid (IntRow W KA (F i).kids) := hk
  have HN : Hid (NtC A n cap F i) := hn
  obtain ⟨t, HT⟩ : ∃ t, Hid (bs (TX F i) = t) := ⟨_, rfl⟩
  have ht : t.size ≤ 116977784950510 := by rw [← HT.out, bs_size]; exact hz
  have z1 : ¬ 9223372036854775807 < 1 + t.size := by omega
  have z2 : ¬ 9223372036854775807 < 1 + t.size + 1 := by omega
  clear hr hg hk hn hz
  unfold ndV
  by_cases h5 : (F i).k = 5
  · obtain ⟨m, HM⟩ : ∃ m : Nat, Hid ((F i).o = (m : Int)) := ⟨(F i).o.toNat, by show _ = _; have := hx h5; omega⟩
    have hm : 1 ≤ m ∧ m ≤ 11 := by have := hx h5; rw [HM.out] at this; omega
    have q0 : (0 : Int) ≤ (m : Int) := by omega
    have q1 : (m : Int) < 12 := by omega
    obtain ⟨t0, t1⟩ := HG.out.ot m hm.2
    have hgl := HG.out.ot.lt
    have hb : bnO m = lvl (m : Int) := by unfold bnO; rw [if_neg (by omega)]
    rw [hb] at t1
    clear hb
    obtain ⟨L, HL⟩ : ∃ L, Hid (lvl (m : Int) = L) := ⟨_, rfl⟩
    rw [HL.out] at t1
    have HB1 : Hid (L < z → bdX F i z = [40] ++ TX F i ++ [41]) := fun hl => by unfold bdX; rw [if_pos ⟨h5, by rw [HM.out, HL.out]; exact hl⟩]
    have HB2 : Hid (¬ L < z → bdX F i z = TX F i) := fun hl => by unfold bdX; rw [if_neg (fun e => hl (by have := e.2; rw [HM.out, HL.out] at this; exact this))]
    have HNN := HN.out
    unfold NtC ndV at HNN
    rw [HM.out, h5] at HNN ⊢
    have HN2 := (show Hid _ from HNN)
    clear HNN
    by_cases hl : L < z
    · have HF : Hid ((⟨#[40]⟩ : ByteArray) ++ t ++ (⟨#[41]⟩ : ByteArray) = bs (bdX F i z)) := by
        show _ = _
        rw [HB1.out hl, ← HT.out, show (⟨#[40]⟩ : ByteArray) = bs [40] from rfl, show (⟨#[41]⟩ : ByteArray) = bs [41] from rfl, bs_app, bs_app]
      go_enter Tryz.func84, Tryz.ntmps84
      go_wp2_with fail
      refine (HN2.out _ KA kc (HR.out.below (by go_grown)) (HG.out.below (by go_grown)) (HK.out.below (by go_grown))).mono ?_
      rintro e w1 ⟨rfl, hb⟩
      rw [HT.out]
      obtain ⟨hc, hf, hC, hF, hz, hk, l0⟩ := bk1 (w := W) (by go_grown) (by go_size) hb
      clear hb
      go_wp2_with fail
      go_ret
      exact ⟨ret_str HF.out, by go_grown⟩
    · have HF : Hid (t = bs (bdX F i z)) := by show _ = _; rw [HB2.out hl, HT.out]
      go_enter Tryz.func84, Tryz.ntmps84
      go_wp2_with fail
      refine (HN2.out _ KA kc (HR.out.below (by go_grown)) (HG.out.below (by go_grown)) (HK.out.below (by go_grown))).mono ?_
      rintro e w1 ⟨rfl, hb⟩
      rw [HT.out]
      obtain ⟨hc, hf, hC, hF, hz, hk, l0⟩ := bk1 (w := W) (by go_grown) (by go_size) hb
      clear hb
      go_wp2_with fail
      go_ret
      exact ⟨ret_str HF.out, by go_grown⟩
  · have h5' : ((F i).k == 5) = false := by simpa using h5
    have HF : Hid (t = bs (bdX F i z)) := by show _ = _; unfold bdX; rw [if_neg (fun e => h5 e.1), HT.out]
    clear hx
    go_enter Tryz.func84, Tryz.ntmps84
    go_wp2_with fail
    refine (HN.out _ KA kc (HR.out.below (by go_grown)) (HG.out.below (by go_grown)) (HK.out.below (by go_grown))).mono ?_
    rintro e w1 ⟨rfl, hb⟩
    rw [HT.out]
    obtain ⟨hc, hf, hC, hF, hz, hk, l0⟩ := bk1 (w := W) (by go_grown) (by go_size) hb
    clear hb
    go_wp2_with fail
    go_ret
    exact ⟨ret_str HF.out, by go_grown⟩
end Go.Proofs.YtljbnbapmjoecaaGreatDoor
