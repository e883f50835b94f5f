import Derived.Test.YtljbnbapmjoecaaGreatDoorTxB
namespace Go.Proofs.YtljbnbapmjoecaaGreatDoor
open Go.RowKit
set_option linter.unusedSimpArgs false
set_option linter.unusedVariables false

theorem infoStr : (Tryz.prog.info? 9).map (fun i => (i.zero, i.size, i.bytes)) = some (some (.string ⟨#[]⟩), 1, 16) := by kernel_rfl
theorem join_call (bk kl : Nat) (ts : List (List UInt8)) (w : World) (hl : ts.length = kl) (hc : ∀ (j : Nat) x, ts[j]? = some x → w.cell? ⟨bk, j, none⟩ = some (.string (bs x))) (hbk : bk < w.heap.size) (hkl : kl ≤ 1000) (hlen : (jn ts).length ≤ 140737488355328) :
    Calls Tryz.prog 85 #[.slice (some ⟨bk, 0, none⟩) kl kl, .string ⟨#[44]⟩] w fun e w' => e = .returned (.string (bs (jn ts))) ∧ Below w.heap.size w w' := by
  have e1 : (ts.map bs).map (fun y => y.data.toList) = ts := by
    rw [List.map_map]
    exact List.map_id _
  have e2 : (ts.map bs).length = kl := by rw [List.length_map, hl]
  have hj : Lib.join ((ts.map bs).map (fun y => y.data.toList)) (⟨#[44]⟩ : ByteArray).data.toList = jn ts := by rw [e1]; exact jn_join ts
  have c := Tryz.strings_Join bk 0 kl (ts.map bs) ⟨#[44]⟩ w (fun j y hy => by
    rw [List.getElem?_map] at hy
    cases ht : ts[j]? with
    | none => rw [ht] at hy; cases hy
    | some z =>
      rw [ht] at hy
      cases hy
      rw [Nat.zero_add]
      exact hc j z ht) hbk (by omega) (by omega) (by rw [hj]; exact hlen)
  rw [e2, hj] at c
  exact c
theorem ks_mem {ks : List Int} {t : Nat} (h : t < ks.length) : ks.getD t 0 ∈ ks := by
  rw [List.getD_eq_getElem?_getD, List.getElem?_eq_getElem h]
  exact List.getElem_mem h
theorem ks_at {ks : List Int} {f : Int → List UInt8} {j : Nat} {x : List UInt8} (h : (ks.map f)[j]? = some x) : j < ks.length ∧ x = f (ks.getD j 0) := by
  rw [List.getElem?_map] at h
  cases hk : ks[j]? with
  | none => rw [hk] at h; cases h
  | some z =>
    rw [hk] at h
    cases h
    exact ⟨(List.getElem?_eq_some_iff.1 hk).1, by rw [List.getD_eq_getElem?_getD, hk]; rfl⟩
set_option maxRecDepth 100000 in
set_option maxHeartbeats 8000000 in
theorem impl_nt6 {A : Option Addr} {n cap : Nat} {F : Nat → FN} {i : Nat} (hi : i < n) (hG : InRange (fG F) n) (hk : (F i).k = 6) (ho : 1 ≤ (F i).o ∧ (F i).o ≤ 10) (hl : 1 ≤ (F i).kids.length ∧ (F i).kids.length ≤ 10) (hN : ∀ c ∈ (F i).kids, NtC A n cap F c.toNat) (hz : (TX F i).length ≤ 116977784950510) (W : World) (KA : Option Addr) (kc : Nat) (hr : FnRow W A n F) (hgt : GT W) (hki : IntRow W KA (F i).kids) :
    Calls Tryz.prog 38 #[.slice A n cap, ndV (F i) KA kc] W fun e w' => e = .returned (.string (bs (TX F i))) ∧ Below W.heap.size W w' := by
  have HR : Hid (FnRow W A n F) := hr
  have HG : Hid (GT W) := hgt
  have HKI : Hid (IntRow W KA (F i).kids) := hki
  have hn := hr.1
  unfold maxLen at hn
  obtain ⟨ks, HKS⟩ : ∃ ks, Hid ((F i).kids = ks) := ⟨_, rfl⟩
  have HN : Hid (∀ c ∈ ks, NtC A n cap F c.toNat) := by show ∀ c ∈ ks, _; rw [← HKS.out]; exact hN
  have HRA : Hid (∀ c ∈ ks, 0 ≤ c ∧ c < (n : Int)) := by
    show ∀ c ∈ ks, _
    rw [← HKS.out]
    exact fun c hc => by have := hG i hi c hc; omega
  have HTX : Hid (TX F i = fnT (F i).o ++ [40] ++ jn (ks.map fun c => TX F c.toNat) ++ [41]) := by show _ = _; rw [← HKS.out]; exact TX_call hG hi hk
  clear hN hki hr hgt hG
  rw [HKS.out] at hl HKI
  obtain ⟨kl, HKL⟩ : ∃ kl, Hid (ks.length = kl) := ⟨_, rfl⟩
  rw [HKL.out] at hl
  obtain ⟨m, HM⟩ : ∃ m : Nat, Hid ((F i).o = (m : Int)) := ⟨(F i).o.toNat, by show _ = _; omega⟩
  have hm : 1 ≤ m ∧ m ≤ 10 := by rw [HM.out] at ho; omega
  rw [HM.out] at HTX
  unfold ndV
  rw [hk, HKS.out, HKL.out, HM.out]
  have m0 : (0 : Int) ≤ (m : Int) := by omega
  have m1 : (m : Int) < 11 := by omega
  obtain ⟨i0, hi0, hz0, hz1, hz2⟩ := info_parts infoStr
  clear ho
  go_enter Tryz.func38, Tryz.ntmps38
  go_wp2_with (refine wpList_make_full _ rfl _ _ 69 rfl (W.heap.size + 1) 9 i0 _ 1 Tryz.underlying69 hi0 hz0 hz1 _ _ _ _ kl rfl rfl rfl rfl ?m1 ?m2 ?m3 ?_)
  case m1 => rw [hz2]; omega
  case m2 => unfold maxLen; omega
  case m3 => simp
  intro w1 hown hgrow
  have hg1 : Below (W.heap.size + 1) (W.alloc (.cells #[.int .i64 6, .int .i64 m, .int .i64 (F i).ck, .int .i64 (F i).cn, .string (F i).cs, .int .i64 (F i).ac, .int .i64 (F i).ar, .bool (F i).af, .bool (F i).ag, .int .i64 (F i).bc, .int .i64 (F i).br, .bool (F i).bf, .bool (F i).bg, .slice KA kl kc] 60)) w1 := (Below.refl _ _).grown hgrow (by simp) (fun k hk => by cases hk)
  obtain ⟨ys, hown⟩ : ∃ ys, w1.ownsRow (W.heap.size + 1) 9 1 (.slice (some ⟨W.heap.size + 1, 0, none⟩) kl kl) kl ys := ⟨_, by simpa using hown⟩
  clear hgrow
  have HO : Hid (w1.ownsRow (W.heap.size + 1) 9 1 (.slice (some ⟨W.heap.size + 1, 0, none⟩) kl kl) kl ys) := hown
  have hC1 := fun b o h => hg1.cell (p := ⟨b, o, none⟩) h
  clear hown
  go_wp2_with fail
  go_loopw [83] (fun j wr => ∃ t : Nat, t ≤ kl ∧ j = .int .i64 t ∧ (∃ ys, wr.ownsRow (W.heap.size + 1) 9 1 (.slice (some ⟨W.heap.size + 1, 0, none⟩) kl kl) kl ys ∧ ∀ u, u < t → ys[u]? = some (.string (bs (TX F (ks.getD u 0).toNat)))) ∧ Below (W.heap.size + 1) (W.alloc (.cells #[.int .i64 6, .int .i64 m, .int .i64 (F i).ck, .int .i64 (F i).cn, .string (F i).cs, .int .i64 (F i).ac, .int .i64 (F i).ar, .bool (F i).af, .bool (F i).ag, .int .i64 (F i).bc, .int .i64 (F i).br, .bool (F i).bf, .bool (F i).bg, .slice KA kl kc] 60)) wr) (fun j _ => kl - (intOf j).toNat)
  case atStart => exact ⟨0, Nat.zero_le _, rfl, ⟨ys, HO.out, fun u hu => by omega⟩, hg1⟩
  case round =>
    clear HO hg1 hC1
    obtain ⟨t, ht, rfl, ⟨ys, hown, hys⟩, hbel⟩ := hrel
    have HW : Hid (Below W.heap.size W wr) := bfin (n := 1) (X := (W.alloc (.cells #[.int .i64 6, .int .i64 m, .int .i64 (F i).ck, .int .i64 (F i).cn, .string (F i).cs, .int .i64 (F i).ac, .int .i64 (F i).ar, .bool (F i).af, .bool (F i).ag, .int .i64 (F i).bc, .int .i64 (F i).br, .bool (F i).bf, .bool (F i).bg, .slice KA kl kc] 60))) (by go_grown) hbel
    by_cases hlt : t < kl
    · obtain ⟨b1, o1, rfl, hl1, e1⟩ := HKI.out.2 t (by rw [HKL.out]; exact hlt)
      rw [← HW.out.cell (p := ⟨_, _, none⟩) hl1] at e1
      have hmem : ks.getD t 0 ∈ ks := ks_mem (by rw [HKL.out]; exact hlt)
      have hra := HRA.out _ hmem
      have hnt := HN.out _ hmem
      obtain ⟨a, HA⟩ : ∃ a : Nat, Hid (ks.getD t 0 = (a : Int)) := ⟨(ks.getD t 0).toNat, by show _ = _; omega⟩
      rw [HA.out] at e1 hra hnt
      rw [Int.toNat_natCast] at hnt
      have HNT : Hid (NtC A n cap F a) := hnt
      obtain ⟨q, p, KB, kb, rfl, hlq, hnd, hks, _⟩ := HR.out.2 a (by omega)
      have HK : Hid (IntRow wr KB (F a).kids) := hks.below HW.out
      obtain ⟨c0, c1, c2, c3, c4, c5, c6, c7, c8, c9, c10, c11, c12, c13⟩ := hnd.below hlq HW.out
      have lq : q < wr.heap.size := Nat.lt_of_lt_of_le hlq HW.out.size
      have l1 : b1 < wr.heap.size := Nat.lt_of_lt_of_le hl1 HW.out.size
      have HBX : Hid (Below (W.heap.size + 1) (W.alloc (.cells #[.int .i64 6, .int .i64 m, .int .i64 (F i).ck, .int .i64 (F i).cn, .string (F i).cs, .int .i64 (F i).ac, .int .i64 (F i).ar, .bool (F i).af, .bool (F i).ag, .int .i64 (F i).bc, .int .i64 (F i).br, .bool (F i).bf, .bool (F i).bg, .slice (some ⟨b1, o1, none⟩) kl kc] 60)) wr) := hbel
      have HY : Hid (∀ u, u < t → ys[u]? = some (.string (bs (TX F (ks.getD u 0).toNat)))) := hys
      have HOW : Hid (wr.ownsRow (W.heap.size + 1) 9 1 (.slice (some ⟨W.heap.size + 1, 0, none⟩) kl kl) kl ys) := hown
      obtain ⟨tx, HTA⟩ : ∃ tx, Hid (bs (TX F a) = tx) := ⟨_, rfl⟩
      have t0 : (0 : Int) ≤ (t : Int) := by omega
      have t1 : (t : Int) < (kl : Int) := by omega
      have a0 : (0 : Int) ≤ (a : Int) := by omega
      have a1 : (a : Int) < (n : Int) := by omega
      clear hbel hys hown hnt hks hnd hmem
      go_wp2_with fail
      refine (HNT.out _ KB kb (HR.out.below HW.out) (HG.out.below HW.out) HK.out).mono ?_
      rintro e w2 ⟨rfl, hb⟩
      rw [HTA.out]
      have HOW2 : Hid (w2.ownsRow (W.heap.size + 1) 9 1 (.slice (some ⟨W.heap.size + 1, 0, none⟩) kl kl) kl ys) := own_below HOW.out hb
      have HBX2 : Hid (Below (W.heap.size + 1) (W.alloc (.cells #[.int .i64 6, .int .i64 m, .int .i64 (F i).ck, .int .i64 (F i).cn, .string (F i).cs, .int .i64 (F i).ac, .int .i64 (F i).ar, .bool (F i).af, .bool (F i).ag, .int .i64 (F i).bc, .int .i64 (F i).br, .bool (F i).bf, .bool (F i).bg, .slice (some ⟨b1, o1, none⟩) kl kc] 60)) w2) := HBX.out.trans (hb.mono (by have := HBX.out.size; simpa using this))
      clear hb c0 c1 c2 c3 c4 c5 c6 c7 c8 c9 c10 c11 c12 c13 e1
      obtain ⟨A', cap', e, _, hc⟩ := own_shape HOW2.out
      cases e
      obtain ⟨g0, e0, _, hg, d0, f0⟩ := hc t (by omega)
      cases e0
      have hl5 := HOW2.out.1
      obtain ⟨x0, y0⟩ : ∃ x, ys[t]? = some x := ⟨_, List.getElem?_eq_getElem (by omega)⟩
      rw [y0] at d0
      have HT9 : Hid ((w2.setCell ⟨W.heap.size + 1, t, none⟩ (.string tx)).ownsRow (W.heap.size + 1) 9 1 (.slice (some ⟨W.heap.size + 1, 0, none⟩) kl kl) kl (ys.set t (.string tx))) := (HOW2.out.stored t _).1
      have HY9 : Hid (∀ u, u < t + 1 → (ys.set t (.string tx))[u]? = some (.string (bs (TX F (ks.getD u 0).toNat)))) := fun u hu => by
        by_cases e : t = u
        · subst e
          rw [List.getElem?_set_self (by omega), HA.out, Int.toNat_natCast, HTA.out]
        · rw [List.getElem?_set_ne e]; exact HY.out u (by omega)
      have HB9 : Hid (Below (W.heap.size + 1) (W.alloc (.cells #[.int .i64 6, .int .i64 m, .int .i64 (F i).ck, .int .i64 (F i).cn, .string (F i).cs, .int .i64 (F i).ac, .int .i64 (F i).ar, .bool (F i).af, .bool (F i).ag, .int .i64 (F i).bc, .int .i64 (F i).br, .bool (F i).bf, .bool (F i).bg, .slice (some ⟨b1, o1, none⟩) kl kc] 60)) (w2.setCell ⟨W.heap.size + 1, t, none⟩ (.string tx))) := HBX2.out.setCell (Nat.le_refl _) _
      clear hc y0 hl5
      go_wp2_with fail
      all_goals
        go_roundw
        case rel => exact ⟨t + 1, by omega, by go_num, ⟨_, HT9.out, HY9.out⟩, HB9.out⟩
        case measure => simp [intOf]; omega
    · obtain rfl : t = kl := by omega
      have q1 : ¬ (t : Int) < (t : Int) := by omega
      have hcell := fun o => hbel.cell (p := ⟨W.heap.size, o, none⟩) (Nat.lt_succ_self _)
      have o1 : wr.cell? ⟨W.heap.size, 1, none⟩ = some (.int .i64 m) := (hcell 1).trans (by simp)
      have lw : W.heap.size < wr.heap.size := by have := hbel.size; simp at this; omega
      have gl := HG.out.fn.lt
      have gl2 : 1 < wr.heap.size := Nat.lt_trans gl lw
      have gl3 : 0 < wr.heap.size := Nat.lt_of_le_of_lt (Nat.zero_le _) lw
      have fn0 : wr.cell? ⟨1, m * 3, none⟩ = some (.string (bs (fnT m))) := (HW.out.cell (p := ⟨_, _, none⟩) gl).trans (HG.out.fn m hm.2)
      obtain ⟨fs, HFS⟩ : ∃ s, Hid (bs (fnT (m : Int)) = s) := ⟨_, rfl⟩
      have hfs : fs.size ≤ 5 := by rw [← HFS.out, bs_size]; exact fnT_len _
      rw [HFS.out] at fn0
      obtain ⟨js, HJS⟩ : ∃ s, Hid (bs (jn (ks.map fun c => TX F c.toNat)) = s) := ⟨_, rfl⟩
      have hjl : (jn (ks.map fun c => TX F c.toNat)).length ≤ 116977784950510 := by
        rw [HTX.out] at hz
        simp only [List.length_append, List.length_cons, List.length_nil] at hz
        omega
      have hjs : js.size ≤ 116977784950510 := by rw [← HJS.out, bs_size]; exact hjl
      have HJL : Hid ((jn (ks.map fun c => TX F c.toNat)).length ≤ 140737488355328) := Nat.le_trans hjl (by omega)
      have HCJ : Hid (∀ wj, Below wr.heap.size wr wj → ∀ (j : Nat) x, (ks.map fun c => TX F c.toNat)[j]? = some x → wj.cell? ⟨W.heap.size + 1, j, none⟩ = some (.string (bs x))) := fun wj hwj j x hx => by
        obtain ⟨hj, rfl⟩ := ks_at hx
        rw [HKL.out] at hj
        obtain ⟨A', cap', e, _, hc⟩ := own_shape hown
        cases e
        obtain ⟨g0, e0, _, hg, d0, _⟩ := hc j (by omega)
        cases e0
        exact (hwj.cell (p := ⟨_, _, none⟩) hg).trans (d0.trans (hys j hj))
      have HBK : Hid (W.heap.size + 1 < wr.heap.size) := (hown.lt (W.heap.size + 1) rfl).2
      have HXL : Hid ((ks.map fun c => TX F c.toNat).length = t) := by show _ = _; rw [List.length_map, HKL.out]
      obtain ⟨r1, r2, r3⟩ : (∀ W, (Op.stringOp .add fs (⟨#[40]⟩ : ByteArray)).run Tryz.prog W = .ok (.string (fs ++ (⟨#[40]⟩ : ByteArray))) W) ∧ (∀ W, (Op.stringOp .add (fs ++ (⟨#[40]⟩ : ByteArray)) js).run Tryz.prog W = .ok (.string (fs ++ (⟨#[40]⟩ : ByteArray) ++ js)) W) ∧ (∀ W, (Op.stringOp .add (fs ++ (⟨#[40]⟩ : ByteArray) ++ js) (⟨#[41]⟩ : ByteArray)).run Tryz.prog W = .ok (.string (fs ++ (⟨#[40]⟩ : ByteArray) ++ js ++ (⟨#[41]⟩ : ByteArray))) W) := by
        have h1 : (⟨#[40]⟩ : ByteArray).size = 1 := rfl
        have h2 : (⟨#[41]⟩ : ByteArray).size = 1 := rfl
        refine ⟨fun W => run_string_add_sum W _ _ ?_, fun W => run_string_add_sum W _ _ ?_, fun W => run_string_add_sum W _ _ ?_⟩
        · omega
        · rw [ByteArray.size_append]; omega
        · rw [ByteArray.size_append, ByteArray.size_append]; omega
      have HF : Hid (fs ++ (⟨#[40]⟩ : ByteArray) ++ js ++ (⟨#[41]⟩ : ByteArray) = bs (TX F i)) := by
        show _ = _
        rw [HTX.out, ← HFS.out, ← HJS.out, show (⟨#[40]⟩ : ByteArray) = bs [40] from rfl, show (⟨#[41]⟩ : ByteArray) = bs [41] from rfl, bs_app, bs_app, bs_app]
      clear hown hys hbel hcell hz
      go_wp2_with fail
      go_region_held3 (fun w' => (∀ bq oq, bq < wr.heap.size → w'.cell? ⟨bq, oq, none⟩ = wr.cell? ⟨bq, oq, none⟩) ∧ wr.heap.size ≤ w'.heap.size ∧ Below wr.heap.size wr w')
        (exact sc_of (Nat.le_refl _) (by go_grown))
        (first
        | (go_at_call 85; refine (join_call (W.heap.size + 1) t (ks.map fun c => TX F c.toNat) _ HXL.out (HCJ.out _ (by go_grown)) (Nat.lt_of_lt_of_le HBK.out (by go_size)) (by omega) HJL.out).mono ?_; rintro e w2 ⟨rfl, hb⟩; rw [HJS.out]; obtain ⟨hkk, hzz⟩ := bframe (B := wr.heap.size) (X := wr) (by go_grown) (by go_size) hb; have hC := fun b o h => hkk.cell (p := ⟨b, o, none⟩) h; clear hb))
      all_goals go_wp2_with fail
      all_goals go_ret
      all_goals exact ⟨ret_str HF.out, bchain HW.out (by go_grown)⟩
end Go.Proofs.YtljbnbapmjoecaaGreatDoor
