import Derived.Test.YtljbnbapmjoecaaGreatDoorTxD
namespace Go.Proofs.YtljbnbapmjoecaaGreatDoor
open Go.RowKit
set_option linter.unusedSimpArgs false
set_option linter.unusedVariables false

/-- What spec.l3Text answers at a node. -/
def StC (A : Option Addr) (n cap : Nat) (F : Nat → FN) (i : Nat) (z : Int) : Prop := ∀ (W : World), FnRow W A n F →
  Calls Tryz.prog 41 #[.slice A n cap, .int .i64 i, .int .i64 z] W fun e w' => e = .returned (.string (bs (bdX F i z))) ∧ Below W.heap.size W w'
theorem bdX_no {F : Nat → FN} {i : Nat} {z : Int} (h : (F i).k ≠ 5) : bdX F i z = TX F i := by unfold bdX; rw [if_neg (fun e => h e.1)]
theorem bdX_zero {F : Nat → FN} {i : Nat} : bdX F i 0 = TX F i := by
  unfold bdX
  rw [if_neg (fun e => by have := e.2; have h := lvl_pos (F i).o; omega)]
set_option maxHeartbeats 1000000 in
theorem spec_l3Quote (s : ByteArray) (w : World) (hs : s.size ≤ 1000) : Calls Tryz.prog 91 #[.string s] w fun e w' =>
    e = .returned (.string (bs ([34] ++ qt s.data.toList ++ [34]))) ∧ w' = w := by
  go_enter Tryz.func91, Tryz.ntmps91
  go_wp2_with fail
  go_loop [3, 4] (fun v3 v4 => ∃ (k : Nat) (o : ByteArray), k ≤ s.size ∧ v3 = .string o ∧ v4 = .int .i64 k ∧ o.size ≤ 1 + 2 * k ∧ o = bs ([34] ++ qt (s.data.toList.take k))) (fun _ v4 => s.size - (intOf v4).toNat)
  case atStart => exact ⟨0, ⟨#[34]⟩, Nat.zero_le _, rfl, rfl, by decide, rfl⟩
  case round =>
    obtain ⟨k, o, hk, rfl, rfl, hz, ho⟩ := hrel
    have HO : Hid (o = bs ([34] ++ qt (s.data.toList.take k))) := ho
    clear ho
    have q0 : (0 : Int) ≤ (k : Int) := by omega
    by_cases hlt : k < s.size
    · have q1 : (k : Int) < (s.size : Int) := by omega
      have q2 : (k : Int) ≤ (s.size : Int) := by omega
      have q3 : (k : Int) + 1 ≤ (s.size : Int) := by omega
      have q4 : (k : Int) ≤ (k : Int) + 1 := by omega
      have q5 : ((k : Int) + 1).toNat = k + 1 := by omega
      have hx := ext_one s k hlt
      have HQ : Hid (qt (s.data.toList.take (k + 1)) = qt (s.data.toList.take k) ++ (if s[k] = 34 then [34, 34] else [s[k]])) := qt_take s k hlt
      have z1 : ¬ 9223372036854775807 < o.size + 1 := by omega
      have z2 : ¬ 9223372036854775807 < o.size + 1 + 1 := by omega
      have z3 : (s.extract k (k + 1)).size = 1 := by rw [hx]; rfl
      by_cases hb : s[k].toNat = 34
      · have hb1 : (s[k].toNat : Int) = 34 := by omega
        have hb2 : s[k] = 34 := by apply UInt8.toNat_inj.1; rw [hb]; rfl
        have HF : Hid (o ++ (⟨#[34]⟩ : ByteArray) ++ s.extract k (k + 1) = bs ([34] ++ qt (s.data.toList.take (k + 1)))) := by
          show _ = _
          rw [HQ.out, if_pos hb2, hx, hb2, HO.out, show (⟨#[34]⟩ : ByteArray) = bs [34] from rfl, bs_app, bs_app]
          simp
        clear hb2 hx
        go_wp2_with fail
        all_goals
          go_round
          case rel => exact ⟨k + 1, _, by omega, rfl, by go_num, by rw [ByteArray.size_append, ByteArray.size_append, z3, show (⟨#[34]⟩ : ByteArray).size = 1 from rfl]; omega, HF.out⟩
          case measure => simp [intOf]; omega
      · have hb1 : ¬ (s[k].toNat : Int) = 34 := by omega
        have hb2 : ((s[k].toNat : Int) == 34) = false := by simpa using hb1
        have hb3 : ¬ s[k] = 34 := fun e => hb (by rw [e]; rfl)
        have HF : Hid (o ++ s.extract k (k + 1) = bs ([34] ++ qt (s.data.toList.take (k + 1)))) := by
          show _ = _
          rw [HQ.out, if_neg hb3, hx, HO.out, bs_app]
          simp
        clear hb3 hx
        go_wp2_with fail
        all_goals
          go_round
          case rel => exact ⟨k + 1, _, by omega, rfl, by go_num, by rw [ByteArray.size_append, z3]; omega, HF.out⟩
          case measure => simp [intOf]; omega
    · have q1 : ¬ (k : Int) < (s.size : Int) := by omega
      have z1 : ¬ 9223372036854775807 < o.size + 1 := by omega
      have HF : Hid (o ++ (⟨#[34]⟩ : ByteArray) = bs ([34] ++ qt s.data.toList ++ [34])) := by
        show _ = _
        rw [HO.out, List.take_of_length_le (by simp; omega), show (⟨#[34]⟩ : ByteArray) = bs [34] from rfl, bs_app]
      go_wp2_with fail
      go_ret
      exact ⟨ret_str HF.out, rfl⟩


set_option maxRecDepth 100000 in
set_option maxHeartbeats 4000000 in
theorem spec_st1 {A : Option Addr} {n cap : Nat} {F : Nat → FN} {i : Nat} (z : Int) (hi : i < n) (hk : (F i).k = 1) (hc : cOk (F i).ck (F i).cn (F i).cs = true) (W : World) (hr : FnRow W A n F) :
    Calls Tryz.prog 41 #[.slice A n cap, .int .i64 i, .int .i64 z] W fun e w' => e = .returned (.string (bs (cstT (F i).ck (F i).cn (F i).cs))) ∧ Below W.heap.size W w' := by
  have HR : Hid (FnRow W A n F) := hr
  have hn := hr.1
  unfold maxLen at hn
  obtain ⟨b, p, KB, kb, rfl, hl, hnd, hks, hcs⟩ := hr.2 i hi
  obtain ⟨c0, c1, c2, c3, c4, c5, c6, c7, c8, c9, c10, c11, c12, c13⟩ := hnd
  rw [hk] at c0
  have i0 : (0 : Int) ≤ (i : Int) := by omega
  have i1 : (i : Int) < (n : Int) := by omega
  have HCS : Hid ((F i).cs.size ≤ maxLen) := hcs
  obtain ⟨ho, _, _⟩ := cOk_parts hc
  clear hr hks hcs hc
  obtain ⟨ck, HCK⟩ : ∃ ck, Hid ((F i).ck = ck) := ⟨_, rfl⟩
  obtain ⟨cn, HCN⟩ : ∃ ck, Hid ((F i).cn = ck) := ⟨_, rfl⟩
  obtain ⟨cs, HCC⟩ : ∃ ck, Hid ((F i).cs = ck) := ⟨_, rfl⟩
  rw [HCK.out] at c2
  rw [HCN.out] at c3
  rw [HCC.out] at c4 HCS
  rw [HCK.out, HCN.out, HCC.out] at ho ⊢
  by_cases h2 : ck = 2
  · subst h2
    have hz : cs.size ≤ 200 := by
      rcases okV_kinds ho with ⟨e, _⟩ | ⟨e, _⟩ | ⟨_, _, hr⟩ | ⟨e, _⟩ | ⟨e, _⟩
      · cases e
      · cases e
      · exact rWord_b hr
      · cases e
      · cases e
    have HE : Hid (bs ([34] ++ qt cs.data.toList ++ [34]) = bs (cstT 2 cn cs)) := by show _ = _; rw [cstT, if_pos rfl]
    clear ho
    go_enter Tryz.func41, Tryz.ntmps41
    go_wp2_with fail
    refine (spec_l3Quote cs _ (by omega)).mono ?_
    rintro e w1 ⟨rfl, rfl⟩
    rw [HE.out]
    go_wp2_with fail
    go_ret
    exact ⟨rfl, by go_grown⟩
  · have h2' : (ck == 2) = false := by simpa using h2
    have HE : Hid (txV ck cn cs = bs (cstT ck cn cs)) := by show _ = _; rw [cstT, if_neg h2, bs_of]
    clear ho
    go_enter Tryz.func41, Tryz.ntmps41
    go_wp2_with fail
    refine (spec_ValueText ck cn cs _ HCS.out).mono ?_
    rintro e w1 ⟨rfl, hb⟩
    rw [HE.out]
    have K1 := bchain (w := W) (by go_grown) hb
    clear hb
    go_wp2_with fail
    go_ret
    exact ⟨rfl, K1⟩
set_option maxRecDepth 100000 in
set_option maxHeartbeats 4000000 in
theorem spec_st2 {A : Option Addr} {n cap : Nat} {F : Nat → FN} {i : Nat} (z : Int) (hi : i < n) (hk : (F i).k = 2) {j : Nat} (hj : (F i).ar = (j : Int)) (hj9 : j < 100) (hc : refOkB (F i).ac (F i).ar = true) (W : World) (hr : FnRow W A n F) :
    Calls Tryz.prog 41 #[.slice A n cap, .int .i64 i, .int .i64 z] W fun e w' => e = .returned (.string (placeT (F i).ac j (F i).af (F i).ag)) ∧ Below W.heap.size W w' := by
  have HR : Hid (FnRow W A n F) := hr
  have hn := hr.1
  unfold maxLen at hn
  obtain ⟨b, p, KB, kb, rfl, hl, hnd, hks, hcs⟩ := hr.2 i hi
  obtain ⟨c0, c1, c2, c3, c4, c5, c6, c7, c8, c9, c10, c11, c12, c13⟩ := hnd
  rw [hk] at c0
  have i0 : (0 : Int) ≤ (i : Int) := by omega
  have i1 : (i : Int) < (n : Int) := by omega
  rw [hj] at c6 hc
  have HC : Hid (refOkB (F i).ac j = true) := hc
  clear hr hks hcs hc
  go_enter Tryz.func41, Tryz.ntmps41
  go_wp2_with fail
  refine (spec_PlaceText_ok _ j _ _ _ hj9 HC.out).mono ?_
  rintro e w1 ⟨rfl, hb⟩
  have K1 := bchain (w := W) (by go_grown) hb
  clear hb
  go_wp2_with fail
  go_ret
  exact ⟨rfl, K1⟩
set_option maxRecDepth 100000 in
set_option maxHeartbeats 4000000 in
theorem spec_st3 {A : Option Addr} {n cap : Nat} {F : Nat → FN} {i : Nat} (z : Int) (hi : i < n) (hk : (F i).k = 3) {j u : Nat} (hj : (F i).ar = (j : Int)) (hj9 : j < 100) (hc : refOkB (F i).ac (F i).ar = true) (hu : (F i).br = (u : Int)) (hu9 : u < 100) (hd : refOkB (F i).bc (F i).br = true) (W : World) (hr : FnRow W A n F) :
    Calls Tryz.prog 41 #[.slice A n cap, .int .i64 i, .int .i64 z] W fun e w' => e = .returned (.string (placeT (F i).ac j (F i).af (F i).ag ++ (⟨#[58]⟩ : ByteArray) ++ placeT (F i).bc u (F i).bf (F i).bg)) ∧ Below W.heap.size W w' := by
  have HR : Hid (FnRow W A n F) := hr
  have hn := hr.1
  unfold maxLen at hn
  obtain ⟨b, p, KB, kb, rfl, hl, hnd, hks, hcs⟩ := hr.2 i hi
  obtain ⟨c0, c1, c2, c3, c4, c5, c6, c7, c8, c9, c10, c11, c12, c13⟩ := hnd
  rw [hk] at c0
  have i0 : (0 : Int) ≤ (i : Int) := by omega
  have i1 : (i : Int) < (n : Int) := by omega
  rw [hj] at c6 hc
  rw [hu] at c10 hd
  have HC : Hid (refOkB (F i).ac j = true) := hc
  have HD : Hid (refOkB (F i).bc u = true) := hd
  clear hr hks hcs hc hd
  obtain ⟨x, HPP⟩ : ∃ p, Hid (placeT (F i).ac j (F i).af (F i).ag = p) := ⟨_, rfl⟩
  obtain ⟨y, HQQ⟩ : ∃ q, Hid (placeT (F i).bc u (F i).bf (F i).bg = q) := ⟨_, rfl⟩
  have hp : x.size ≤ 6 := by have := pl_size (F i).ac j (F i).af (F i).ag; rw [HPP.out] at this; exact this
  have hq : y.size ≤ 6 := by have := pl_size (F i).bc u (F i).bf (F i).bg; rw [HQQ.out] at this; exact this
  rw [HPP.out, HQQ.out]
  obtain ⟨r1, r2⟩ : (∀ W, (Op.stringOp .add x (⟨#[58]⟩ : ByteArray)).run Tryz.prog W = .ok (.string (x ++ (⟨#[58]⟩ : ByteArray))) W) ∧ (∀ W, (Op.stringOp .add (x ++ (⟨#[58]⟩ : ByteArray)) y).run Tryz.prog W = .ok (.string (x ++ (⟨#[58]⟩ : ByteArray) ++ y)) W) := by
    have h1 : (⟨#[58]⟩ : ByteArray).size = 1 := rfl
    refine ⟨fun W => run_string_add_sum W _ _ ?_, fun W => run_string_add_sum W _ _ ?_⟩
    · omega
    · rw [ByteArray.size_append]; omega
  go_enter Tryz.func41, Tryz.ntmps41
  go_wp2_with fail
  go_region_held3 (fun w' => (∀ bq oq, bq < W.heap.size + 1 → w'.cell? ⟨bq, oq, none⟩ = (W.alloc (.cells #[.int .i64 3, .int .i64 (F i).o, .int .i64 (F i).ck, .int .i64 (F i).cn, .string (F i).cs, .int .i64 (F i).ac, .int .i64 j, .bool (F i).af, .bool (F i).ag, .int .i64 (F i).bc, .int .i64 u, .bool (F i).bf, .bool (F i).bg, .slice KB (F i).kids.length kb] 60)).cell? ⟨bq, oq, none⟩) ∧ W.heap.size + 1 ≤ w'.heap.size ∧ Below (W.heap.size + 1) (W.alloc (.cells #[.int .i64 3, .int .i64 (F i).o, .int .i64 (F i).ck, .int .i64 (F i).cn, .string (F i).cs, .int .i64 (F i).ac, .int .i64 j, .bool (F i).af, .bool (F i).ag, .int .i64 (F i).bc, .int .i64 u, .bool (F i).bf, .bool (F i).bg, .slice KB (F i).kids.length kb] 60)) w')
    (exact sc_of (by go_size) (by go_grown))
    (first
    | (go_at_call_of 92 (Value.agg #[Value.int IntKind.i64 (F i).ac, Value.int IntKind.i64 (j : Int), Value.bool (F i).af, Value.bool (F i).ag]); refine (spec_PlaceText_ok _ j _ _ _ hj9 HC.out).mono ?_; rintro e wr ⟨rfl, hb⟩; rw [HPP.out]; obtain ⟨hkk, hz⟩ := bframe (B := W.heap.size + 1) (X := (W.alloc (.cells #[.int .i64 3, .int .i64 (F i).o, .int .i64 (F i).ck, .int .i64 (F i).cn, .string (F i).cs, .int .i64 (F i).ac, .int .i64 j, .bool (F i).af, .bool (F i).ag, .int .i64 (F i).bc, .int .i64 u, .bool (F i).bf, .bool (F i).bg, .slice KB (F i).kids.length kb] 60))) (by go_grown) (by go_size) hb; have hC := fun b o h => hkk.cell (p := ⟨b, o, none⟩) h; clear hb)
    | (go_at_call_of 92 (Value.agg #[Value.int IntKind.i64 (F i).bc, Value.int IntKind.i64 (u : Int), Value.bool (F i).bf, Value.bool (F i).bg]); refine (spec_PlaceText_ok _ u _ _ _ hu9 HD.out).mono ?_; rintro e wr ⟨rfl, hb⟩; rw [HQQ.out]; obtain ⟨hkk, hz⟩ := bframe (B := W.heap.size + 1) (X := (W.alloc (.cells #[.int .i64 3, .int .i64 (F i).o, .int .i64 (F i).ck, .int .i64 (F i).cn, .string (F i).cs, .int .i64 (F i).ac, .int .i64 j, .bool (F i).af, .bool (F i).ag, .int .i64 (F i).bc, .int .i64 u, .bool (F i).bf, .bool (F i).bg, .slice KB (F i).kids.length kb] 60))) (by go_grown) (by go_size) hb; have hC := fun b o h => hkk.cell (p := ⟨b, o, none⟩) h; clear hb))
  all_goals go_wp2_with fail
  all_goals go_ret
  all_goals exact ⟨rfl, bfin (n := 1) (X := (W.alloc (.cells #[.int .i64 3, .int .i64 (F i).o, .int .i64 (F i).ck, .int .i64 (F i).cn, .string (F i).cs, .int .i64 (F i).ac, .int .i64 j, .bool (F i).af, .bool (F i).ag, .int .i64 (F i).bc, .int .i64 u, .bool (F i).bf, .bool (F i).bg, .slice KB (F i).kids.length kb] 60))) (by go_grown) (by go_grown)⟩

set_option maxRecDepth 100000 in
set_option maxHeartbeats 4000000 in
theorem spec_st4 {A : Option Addr} {n cap : Nat} {F : Nat → FN} {i a : Nat} (z : Int) (hi : i < n) (hk : (F i).k = 4) (hg : (F i).kids = [(a : Int)]) (hB : StC A n cap F a 5) (hz : (bdX F a 5).length ≤ 116977784950520) (W : World) (hr : FnRow W A n F) :
    Calls Tryz.prog 41 #[.slice A n cap, .int .i64 i, .int .i64 z] W fun e w' => e = .returned (.string (bs ([45] ++ bdX F a 5))) ∧ Below W.heap.size W w' := by
  have HB : Hid (StC A n cap F a 5) := hB
  clear hB
  have HR : Hid (FnRow W A n F) := hr
  have hn := hr.1
  unfold maxLen at hn
  obtain ⟨b, p, KB, kb, rfl, hl, hnd, hks, hcs⟩ := hr.2 i hi
  obtain ⟨c0, c1, c2, c3, c4, c5, c6, c7, c8, c9, c10, c11, c12, c13⟩ := hnd
  rw [hk] at c0
  have i0 : (0 : Int) ≤ (i : Int) := by omega
  have i1 : (i : Int) < (n : Int) := by omega
  rw [hg] at hks c13
  simp only [List.length_cons, List.length_nil] at c13
  obtain ⟨b1, o1, rfl, hl1, e1⟩ := hks.2 0 (by simp)
  simp only [List.getD_cons_zero, Nat.add_zero] at e1
  clear hr hks hcs hg
  obtain ⟨t, HT⟩ : ∃ t, Hid (bs (bdX F a 5) = t) := ⟨_, rfl⟩
  have ht : t.size ≤ 116977784950520 := by rw [← HT.out, bs_size]; exact hz
  have z1 : ¬ 9223372036854775807 < 1 + t.size := by omega
  have HF : Hid ((⟨#[45]⟩ : ByteArray) ++ t = bs ([45] ++ bdX F a 5)) := by
    show _ = _
    rw [← HT.out, show (⟨#[45]⟩ : ByteArray) = bs [45] from rfl, bs_app]
  clear hz
  go_enter Tryz.func41, Tryz.ntmps41
  go_wp2_with fail
  refine (HB.out _ (HR.out.below (by go_grown))).mono ?_
  rintro e w1 ⟨rfl, hb⟩
  rw [HT.out]
  have K1 := bchain (w := W) (by go_grown) hb
  clear hb
  go_wp2_with fail
  go_ret
  exact ⟨ret_str HF.out, K1⟩
set_option maxRecDepth 100000 in
set_option maxHeartbeats 8000000 in
theorem spec_st5 {A : Option Addr} {n cap : Nat} {F : Nat → FN} {i a b : Nat} (z : Int) (hi : i < n) (hk : (F i).k = 5) (hg : (F i).kids = [(a : Int), (b : Int)]) (ho : 1 ≤ (F i).o ∧ (F i).o ≤ 11) (hA : StC A n cap F a (lvl (F i).o)) (hB : StC A n cap F b (lvl (F i).o + 1)) (hza : (bdX F a (lvl (F i).o)).length ≤ 116977784950520) (hzb : (bdX F b (lvl (F i).o + 1)).length ≤ 116977784950520) (htx : TX F i = bdX F a (lvl (F i).o) ++ sgT (F i).o ++ bdX F b (lvl (F i).o + 1)) (W : World) (hr : FnRow W A n F) :
    Calls Tryz.prog 41 #[.slice A n cap, .int .i64 i, .int .i64 z] W fun e w' => e = .returned (.string (bs (bdX F i z))) ∧ Below W.heap.size W w' := by
  have HA : Hid (StC A n cap F a (lvl (F i).o)) := hA
  have HB : Hid (StC A n cap F b (lvl (F i).o + 1)) := hB
  have HTX : Hid (TX F i = bdX F a (lvl (F i).o) ++ sgT (F i).o ++ bdX F b (lvl (F i).o + 1)) := htx
  clear hA hB htx
  have HR : Hid (FnRow W A n F) := hr
  have hn := hr.1
  unfold maxLen at hn
  obtain ⟨q, p, KB, kb, rfl, hl, hnd, hks, hcs⟩ := hr.2 i hi
  obtain ⟨c0, c1, c2, c3, c4, c5, c6, c7, c8, c9, c10, c11, c12, c13⟩ := hnd
  rw [hk] at c0
  have i0 : (0 : Int) ≤ (i : Int) := by omega
  have i1 : (i : Int) < (n : Int) := by omega
  rw [hg] at hks c13
  simp only [List.length_cons, List.length_nil] at c13
  obtain ⟨b1, o1, rfl, hl1, e1⟩ := hks.2 0 (by simp)
  obtain ⟨b2, o2, e9, _, e2⟩ := hks.2 1 (by simp)
  cases e9
  simp only [List.getD_cons_zero, List.getD_cons_succ, Nat.add_zero] at e1 e2
  clear hr hks hcs hg
  obtain ⟨m, HM⟩ : ∃ m : Nat, Hid ((F i).o = (m : Int)) := ⟨(F i).o.toNat, by show _ = _; omega⟩
  have hm : 1 ≤ m ∧ m ≤ 11 := by rw [HM.out] at ho; omega
  have HMB : Hid (1 ≤ (m : Int) ∧ (m : Int) ≤ 11) := by show _ ∧ _; omega
  obtain ⟨hL1, hL4⟩ := lvl_pos (m : Int)
  have HBD : Hid (bdX F i z = if lvl (m : Int) < z then [40] ++ TX F i ++ [41] else TX F i) := by
    show _ = _
    unfold bdX
    by_cases hlz : lvl (m : Int) < z
    · rw [if_pos ⟨hk, by rw [HM.out]; exact hlz⟩, if_pos hlz]
    · rw [if_neg (fun e => hlz (by have := e.2; rw [HM.out] at this; exact this)), if_neg hlz]
  rw [HM.out] at HA HB hza hzb c1 HTX
  obtain ⟨L, HL⟩ : ∃ L, Hid (lvl (m : Int) = L) := ⟨_, rfl⟩
  rw [HL.out] at hL1 hL4 HA HB hza hzb HTX HBD
  obtain ⟨sg, HSG⟩ : ∃ s, Hid (bs (sgT (m : Int)) = s) := ⟨_, rfl⟩
  have hsg : sg.size ≤ 2 := by rw [← HSG.out, bs_size]; exact sgT_len _
  obtain ⟨t, HT⟩ : ∃ t, Hid (bs (bdX F a L) = t) := ⟨_, rfl⟩
  obtain ⟨u, HU⟩ : ∃ t, Hid (bs (bdX F b (L + 1)) = t) := ⟨_, rfl⟩
  have ht : t.size ≤ 116977784950520 := by rw [← HT.out, bs_size]; exact hza
  have hu : u.size ≤ 116977784950520 := by rw [← HU.out, bs_size]; exact hzb
  obtain ⟨x, HX⟩ : ∃ x, Hid (t ++ sg ++ u = x) := ⟨_, rfl⟩
  have hxs : x.size ≤ 233955569901050 := by rw [← HX.out, ByteArray.size_append, ByteArray.size_append]; omega
  have HXT : Hid (x = bs (TX F i)) := by
    show _ = _
    rw [← HX.out, HTX.out, ← HT.out, ← HU.out, ← HSG.out, bs_app, bs_app]
  obtain ⟨r1, r2⟩ : (∀ W, (Op.stringOp .add t sg).run Tryz.prog W = .ok (.string (t ++ sg)) W) ∧ (∀ W, (Op.stringOp .add (t ++ sg) u).run Tryz.prog W = .ok (.string x) W) := by
    refine ⟨fun W => run_string_add_sum W _ _ ?_, fun W => ?_⟩
    · omega
    · rw [run_string_add_sum W _ _ (by rw [ByteArray.size_append]; omega), HX.out]
  have hwr : IntKind.i64.wrap (L + 1) = L + 1 := by rw [IntKind.wrap_i64]; omega
  have lA : b1 < W.heap.size + 1 := by omega
  have z1 : ¬ 9223372036854775807 < 1 + x.size := by omega
  have z2 : ¬ 9223372036854775807 < 1 + x.size + 1 := by omega
  have HF1 : Hid (L < z → (⟨#[40]⟩ : ByteArray) ++ x ++ (⟨#[41]⟩ : ByteArray) = bs (bdX F i z)) := fun hlz => by
    rw [HBD.out, if_pos hlz, HXT.out, show (⟨#[40]⟩ : ByteArray) = bs [40] from rfl, show (⟨#[41]⟩ : ByteArray) = bs [41] from rfl, bs_app, bs_app]
  have HF2 : Hid (¬ L < z → x = bs (bdX F i z)) := fun hlz => by rw [HBD.out, if_neg hlz, HXT.out]
  clear hza hzb ho hm
  go_enter Tryz.func41, Tryz.ntmps41
  go_wp2_with fail
  refine (spec_l3Level _ _ HMB.out.1 HMB.out.2).mono ?_
  rintro e w1 ⟨rfl, rfl⟩
  rw [HL.out]
  go_wp2_with fail
  go_region_held3 (fun w' => (∀ bq oq, bq < W.heap.size + 1 → w'.cell? ⟨bq, oq, none⟩ = (W.alloc (.cells #[.int .i64 5, .int .i64 m, .int .i64 (F i).ck, .int .i64 (F i).cn, .string (F i).cs, .int .i64 (F i).ac, .int .i64 (F i).ar, .bool (F i).af, .bool (F i).ag, .int .i64 (F i).bc, .int .i64 (F i).br, .bool (F i).bf, .bool (F i).bg, .slice (some ⟨b1, o1, none⟩) 2 kb] 60)).cell? ⟨bq, oq, none⟩) ∧ W.heap.size + 1 ≤ w'.heap.size ∧ Below (W.heap.size + 1) (W.alloc (.cells #[.int .i64 5, .int .i64 m, .int .i64 (F i).ck, .int .i64 (F i).cn, .string (F i).cs, .int .i64 (F i).ac, .int .i64 (F i).ar, .bool (F i).af, .bool (F i).ag, .int .i64 (F i).bc, .int .i64 (F i).br, .bool (F i).bf, .bool (F i).bg, .slice (some ⟨b1, o1, none⟩) 2 kb] 60)) w')
    (exact sc_of (by go_size) (by go_grown))
    (first
    | (go_at_call 94; refine (spec_l3Sign _ _ HMB.out.1 HMB.out.2).mono ?_; rintro e wr ⟨rfl, hb⟩; rw [HSG.out]; obtain ⟨hkk, hzz⟩ := bframe (B := W.heap.size + 1) (X := (W.alloc (.cells #[.int .i64 5, .int .i64 m, .int .i64 (F i).ck, .int .i64 (F i).cn, .string (F i).cs, .int .i64 (F i).ac, .int .i64 (F i).ar, .bool (F i).af, .bool (F i).ag, .int .i64 (F i).bc, .int .i64 (F i).br, .bool (F i).bf, .bool (F i).bg, .slice (some ⟨b1, o1, none⟩) 2 kb] 60))) (by go_grown) (by go_size) hb; have hC := fun b o h => hkk.cell (p := ⟨b, o, none⟩) h; clear hb)
    | (go_at_call_of 41 (Value.int .i64 L); refine (HA.out _ (HR.out.below (bfin (n := 1) (X := (W.alloc (.cells #[.int .i64 5, .int .i64 m, .int .i64 (F i).ck, .int .i64 (F i).cn, .string (F i).cs, .int .i64 (F i).ac, .int .i64 (F i).ar, .bool (F i).af, .bool (F i).ag, .int .i64 (F i).bc, .int .i64 (F i).br, .bool (F i).bf, .bool (F i).bg, .slice (some ⟨b1, o1, none⟩) 2 kb] 60))) (by go_grown) (by go_grown)))).mono ?_; rintro e wr ⟨rfl, hb⟩; rw [HT.out]; obtain ⟨hkk, hzz⟩ := bframe (B := W.heap.size + 1) (X := (W.alloc (.cells #[.int .i64 5, .int .i64 m, .int .i64 (F i).ck, .int .i64 (F i).cn, .string (F i).cs, .int .i64 (F i).ac, .int .i64 (F i).ar, .bool (F i).af, .bool (F i).ag, .int .i64 (F i).bc, .int .i64 (F i).br, .bool (F i).bf, .bool (F i).bg, .slice (some ⟨b1, o1, none⟩) 2 kb] 60))) (by go_grown) (by go_size) hb; have hC := fun b o h => hkk.cell (p := ⟨b, o, none⟩) h; clear hb)
    | (go_at_call 41; refine (HB.out _ (HR.out.below (bfin (n := 1) (X := (W.alloc (.cells #[.int .i64 5, .int .i64 m, .int .i64 (F i).ck, .int .i64 (F i).cn, .string (F i).cs, .int .i64 (F i).ac, .int .i64 (F i).ar, .bool (F i).af, .bool (F i).ag, .int .i64 (F i).bc, .int .i64 (F i).br, .bool (F i).bf, .bool (F i).bg, .slice (some ⟨b1, o1, none⟩) 2 kb] 60))) (by go_grown) (by go_grown)))).mono ?_; rintro e wr ⟨rfl, hb⟩; rw [HU.out]; obtain ⟨hkk, hzz⟩ := bframe (B := W.heap.size + 1) (X := (W.alloc (.cells #[.int .i64 5, .int .i64 m, .int .i64 (F i).ck, .int .i64 (F i).cn, .string (F i).cs, .int .i64 (F i).ac, .int .i64 (F i).ar, .bool (F i).af, .bool (F i).ag, .int .i64 (F i).bc, .int .i64 (F i).br, .bool (F i).bf, .bool (F i).bg, .slice (some ⟨b1, o1, none⟩) 2 kb] 60))) (by go_grown) (by go_size) hb; have hC := fun b o h => hkk.cell (p := ⟨b, o, none⟩) h; clear hb))
  all_goals
    by_cases hlz : L < z
    · go_wp2_with fail
      go_ret
      exact ⟨ret_str (HF1.out hlz), bfin (n := 1) (X := (W.alloc (.cells #[.int .i64 5, .int .i64 m, .int .i64 (F i).ck, .int .i64 (F i).cn, .string (F i).cs, .int .i64 (F i).ac, .int .i64 (F i).ar, .bool (F i).af, .bool (F i).ag, .int .i64 (F i).bc, .int .i64 (F i).br, .bool (F i).bf, .bool (F i).bg, .slice (some ⟨b1, o1, none⟩) 2 kb] 60))) (by go_grown) (by go_grown)⟩
    · go_wp2_with fail
      go_ret
      exact ⟨ret_str (HF2.out hlz), bfin (n := 1) (X := (W.alloc (.cells #[.int .i64 5, .int .i64 m, .int .i64 (F i).ck, .int .i64 (F i).cn, .string (F i).cs, .int .i64 (F i).ac, .int .i64 (F i).ar, .bool (F i).af, .bool (F i).ag, .int .i64 (F i).bc, .int .i64 (F i).br, .bool (F i).bf, .bool (F i).bg, .slice (some ⟨b1, o1, none⟩) 2 kb] 60))) (by go_grown) (by go_grown)⟩
end Go.Proofs.YtljbnbapmjoecaaGreatDoor
