import Derived.Test.YtanjlpgdmnapdaaCrsA
namespace Go.Proofs.Ytanjlpgdmnapdaa
open Go.RowKit Go.Maps
set_option linter.unusedSimpArgs false
set_option linter.unusedVariables false

theorem doM_add {n u d : ByteArray} {L : List FI} : doM ⟨1, n, u, d⟩ L = addK n d L := rfl
theorem doM_no {x : DP} {L : List FI} (h : findB x L = false) : doM x L = L := by rw [doM, h]; rfl
theorem doM_yes {x : DP} {L : List FI} (h : findB x L = true) : doM x L = doL x L := by rw [doM, h]; rfl
set_option maxRecDepth 100000 in
set_option maxHeartbeats 16000000 in
theorem impl_Crash_no {v : Value} {d : DK} {A : Option Addr} {cap : Nat} {ks : List Int} (t : Int) (w : World) (h : DkRow w v d) (hl : DkLil d) (hi : IntRow w A ks) (hk : ks.length ≤ 1048576) (hd : diskB d = false) :
    Calls Try.prog 16 #[v, .slice A ks.length cap, .int .i64 t] w fun e w' => ∃ v', e = .returned (.tuple #[v', .bool (crK d ks t)]) ∧ DkOwn w' w.heap.size v' (crD d ks t) ∧ Below w.heap.size w w' := by
  have HR : Hid (DkRow w v d) := h
  have HL : Hid (DkLil d) := hl
  have HI : Hid (IntRow w A ks) := hi
  obtain ⟨A1, c1, A2, c2, A3, c3, rfl, r1, r2, r3, z1, z2, z3⟩ := h
  obtain ⟨n1, HN1⟩ : ∃ n1, Hid (d.live.length = n1) := ⟨_, rfl⟩
  obtain ⟨n2, HN2⟩ : ∃ n2, Hid (d.safe.length = n2) := ⟨_, rfl⟩
  obtain ⟨n3, HN3⟩ : ∃ n3, Hid (d.ops.length = n3) := ⟨_, rfl⟩
  obtain ⟨kn, HKN⟩ : ∃ kn, Hid (ks.length = kn) := ⟨_, rfl⟩
  have hn3 : n3 ≤ 1048576 := by rw [← HN3.out]; exact hl.n3
  rw [HN1.out, HN2.out, HN3.out] at HR
  rw [HN1.out, HN2.out, HN3.out, HKN.out]
  rw [HKN.out] at hk
  have HR2 : Hid (FiRow w A2 d.safe) := r2
  have HR3 : Hid (DpRow w A3 d.ops) := r3
  clear r1 r2 r3 z1 z2 z3 hl hi
  have HRR : Hid (diskB d = false) := hd
  have HC : Hid (crK d ks t = false) := crK_no (Or.inl hd)
  rw [crD_no HC.out, HC.out]
  clear hd
  go_enter Try.func16, Try.ntmps16
  go_wp2_with fail
  refine (impl_DiskOk _ (HR.out.below (by go_grown)) HL.out).mono ?_
  rintro e w1 ⟨rfl, hb⟩
  rw [HRR.out]
  have k0 := cy hb (b := w.heap.size) (o := 0) (x := .slice A1 n1 c1) (by go_simp)
  have k1 := cy hb (b := w.heap.size) (o := 1) (x := .slice A2 n2 c2) (by go_simp)
  have k2 := cy hb (b := w.heap.size) (o := 2) (x := .slice A3 n3 c3) (by go_simp)
  have p0 := cy hb (b := w.heap.size + 1) (o := 0) (x := .slice none 0 0) (by go_simp)
  have p1 := cy hb (b := w.heap.size + 1) (o := 1) (x := .slice none 0 0) (by go_simp)
  have p2 := cy hb (b := w.heap.size + 1) (o := 2) (x := .slice none 0 0) (by go_simp)
  have pf : ∀ o, w1.frozen? ⟨w.heap.size + 1, o, none⟩ = false := fun o => by
    rw [hb.frozen (p := ⟨w.heap.size + 1, o, none⟩) (by simp)]
    go_simp
  have HB1 : Hid (Below w.heap.size w w1) := Below.trans (by go_grown) (hb.mono (by simp; omega))
  have s1 : w.heap.size + 1 < w1.heap.size := World.block_lt_of_cell? w1 ⟨w.heap.size + 1, 0, none⟩ p0
  have s0 : w.heap.size < w1.heap.size := by omega
  clear hb
  go_wp2_with fail
  refine bodyPost_ret (v := .tuple #[.agg #[.slice none 0 0, .slice none 0 0, .slice none 0 0], .bool false]) ?_ rfl ⟨_, rfl, own_dk0, ?_⟩
  · simp (maxDischargeDepth := 9) [results, Try.results16, go_sem, *]
  · exact ((HB1.out.setCell (by show w.heap.size ≤ w.heap.size + 1; omega) _).setCell (by show w.heap.size ≤ w.heap.size + 1; omega) _).setCell (by show w.heap.size ≤ w.heap.size + 1; omega) _
set_option maxRecDepth 100000 in
set_option maxHeartbeats 16000000 in
theorem impl_Crash_kp {v : Value} {d : DK} {A : Option Addr} {cap : Nat} {ks : List Int} (t : Int) (w : World) (h : DkRow w v d) (hl : DkLil d) (hi : IntRow w A ks) (hk : ks.length ≤ 1048576) (hd : diskB d = true) (hp : keepB ks d.ops.length = false) :
    Calls Try.prog 16 #[v, .slice A ks.length cap, .int .i64 t] w fun e w' => ∃ v', e = .returned (.tuple #[v', .bool (crK d ks t)]) ∧ DkOwn w' w.heap.size v' (crD d ks t) ∧ Below w.heap.size w w' := by
  have HR : Hid (DkRow w v d) := h
  have HL : Hid (DkLil d) := hl
  have HI : Hid (IntRow w A ks) := hi
  obtain ⟨A1, c1, A2, c2, A3, c3, rfl, r1, r2, r3, z1, z2, z3⟩ := h
  obtain ⟨n1, HN1⟩ : ∃ n1, Hid (d.live.length = n1) := ⟨_, rfl⟩
  obtain ⟨n2, HN2⟩ : ∃ n2, Hid (d.safe.length = n2) := ⟨_, rfl⟩
  obtain ⟨n3, HN3⟩ : ∃ n3, Hid (d.ops.length = n3) := ⟨_, rfl⟩
  obtain ⟨kn, HKN⟩ : ∃ kn, Hid (ks.length = kn) := ⟨_, rfl⟩
  have hn3 : n3 ≤ 1048576 := by rw [← HN3.out]; exact hl.n3
  rw [HN1.out, HN2.out, HN3.out] at HR
  rw [HN1.out, HN2.out, HN3.out, HKN.out]
  rw [HKN.out] at hk
  have HR2 : Hid (FiRow w A2 d.safe) := r2
  have HR3 : Hid (DpRow w A3 d.ops) := r3
  clear r1 r2 r3 z1 z2 z3 hl hi
  have HRR : Hid (diskB d = true) := hd
  have HC : Hid (crK d ks t = false) := crK_no (Or.inr (Or.inl hp))
  rw [crD_no HC.out, HC.out]
  rw [HN3.out] at hp
  have HP : Hid (keepB ks n3 = false) := hp
  clear hd hp
  go_enter Try.func16, Try.ntmps16
  go_wp2_with fail
  refine (impl_DiskOk _ (HR.out.below (by go_grown)) HL.out).mono ?_
  rintro e w1 ⟨rfl, hb⟩
  rw [HRR.out]
  have k0 := cy hb (b := w.heap.size) (o := 0) (x := .slice A1 n1 c1) (by go_simp)
  have k1 := cy hb (b := w.heap.size) (o := 1) (x := .slice A2 n2 c2) (by go_simp)
  have k2 := cy hb (b := w.heap.size) (o := 2) (x := .slice A3 n3 c3) (by go_simp)
  have p0 := cy hb (b := w.heap.size + 1) (o := 0) (x := .slice none 0 0) (by go_simp)
  have p1 := cy hb (b := w.heap.size + 1) (o := 1) (x := .slice none 0 0) (by go_simp)
  have p2 := cy hb (b := w.heap.size + 1) (o := 2) (x := .slice none 0 0) (by go_simp)
  have pf : ∀ o, w1.frozen? ⟨w.heap.size + 1, o, none⟩ = false := fun o => by
    rw [hb.frozen (p := ⟨w.heap.size + 1, o, none⟩) (by simp)]
    go_simp
  have HB1 : Hid (Below w.heap.size w w1) := Below.trans (by go_grown) (hb.mono (by simp; omega))
  have s1 : w.heap.size + 1 < w1.heap.size := World.block_lt_of_cell? w1 ⟨w.heap.size + 1, 0, none⟩ p0
  have s0 : w.heap.size < w1.heap.size := by omega
  clear hb
  go_wp2_with fail
  refine (impl_placesOk n3 _ (HI.out.below HB1.out) HKN.out (by omega) (by omega)).mono ?_
  rintro e wq ⟨rfl, hw⟩
  subst wq
  rw [HP.out]
  go_wp2_with fail
  refine bodyPost_ret (v := .tuple #[.agg #[.slice none 0 0, .slice none 0 0, .slice none 0 0], .bool false]) ?_ rfl ⟨_, rfl, own_dk0, ?_⟩
  · simp (maxDischargeDepth := 9) [results, Try.results16, go_sem, *]
  · exact ((HB1.out.setCell (by show w.heap.size ≤ w.heap.size + 1; omega) _).setCell (by show w.heap.size ≤ w.heap.size + 1; omega) _).setCell (by show w.heap.size ≤ w.heap.size + 1; omega) _
set_option maxRecDepth 100000 in
set_option maxHeartbeats 16000000 in
theorem impl_Crash_tn {v : Value} {d : DK} {A : Option Addr} {cap : Nat} {ks : List Int} (t : Int) (w : World) (h : DkRow w v d) (hl : DkLil d) (hi : IntRow w A ks) (hk : ks.length ≤ 1048576) (hd : diskB d = true) (hp : keepB ks d.ops.length = true) (ht : ¬ 0 ≤ t) :
    Calls Try.prog 16 #[v, .slice A ks.length cap, .int .i64 t] w fun e w' => ∃ v', e = .returned (.tuple #[v', .bool (crK d ks t)]) ∧ DkOwn w' w.heap.size v' (crD d ks t) ∧ Below w.heap.size w w' := by
  have HR : Hid (DkRow w v d) := h
  have HL : Hid (DkLil d) := hl
  have HI : Hid (IntRow w A ks) := hi
  obtain ⟨A1, c1, A2, c2, A3, c3, rfl, r1, r2, r3, z1, z2, z3⟩ := h
  obtain ⟨n1, HN1⟩ : ∃ n1, Hid (d.live.length = n1) := ⟨_, rfl⟩
  obtain ⟨n2, HN2⟩ : ∃ n2, Hid (d.safe.length = n2) := ⟨_, rfl⟩
  obtain ⟨n3, HN3⟩ : ∃ n3, Hid (d.ops.length = n3) := ⟨_, rfl⟩
  obtain ⟨kn, HKN⟩ : ∃ kn, Hid (ks.length = kn) := ⟨_, rfl⟩
  have hn3 : n3 ≤ 1048576 := by rw [← HN3.out]; exact hl.n3
  rw [HN1.out, HN2.out, HN3.out] at HR
  rw [HN1.out, HN2.out, HN3.out, HKN.out]
  rw [HKN.out] at hk
  have HR2 : Hid (FiRow w A2 d.safe) := r2
  have HR3 : Hid (DpRow w A3 d.ops) := r3
  clear r1 r2 r3 z1 z2 z3 hl hi
  have HRR : Hid (diskB d = true) := hd
  have HC : Hid (crK d ks t = false) := crK_no (Or.inr (Or.inr ht))
  rw [crD_no HC.out, HC.out]
  rw [HN3.out] at hp
  have HP : Hid (keepB ks n3 = true) := hp
  clear hd hp
  have ht2 : t < 0 := by omega
  go_enter Try.func16, Try.ntmps16
  go_wp2_with fail
  refine (impl_DiskOk _ (HR.out.below (by go_grown)) HL.out).mono ?_
  rintro e w1 ⟨rfl, hb⟩
  rw [HRR.out]
  have k0 := cy hb (b := w.heap.size) (o := 0) (x := .slice A1 n1 c1) (by go_simp)
  have k1 := cy hb (b := w.heap.size) (o := 1) (x := .slice A2 n2 c2) (by go_simp)
  have k2 := cy hb (b := w.heap.size) (o := 2) (x := .slice A3 n3 c3) (by go_simp)
  have p0 := cy hb (b := w.heap.size + 1) (o := 0) (x := .slice none 0 0) (by go_simp)
  have p1 := cy hb (b := w.heap.size + 1) (o := 1) (x := .slice none 0 0) (by go_simp)
  have p2 := cy hb (b := w.heap.size + 1) (o := 2) (x := .slice none 0 0) (by go_simp)
  have pf : ∀ o, w1.frozen? ⟨w.heap.size + 1, o, none⟩ = false := fun o => by
    rw [hb.frozen (p := ⟨w.heap.size + 1, o, none⟩) (by simp)]
    go_simp
  have HB1 : Hid (Below w.heap.size w w1) := Below.trans (by go_grown) (hb.mono (by simp; omega))
  have s1 : w.heap.size + 1 < w1.heap.size := World.block_lt_of_cell? w1 ⟨w.heap.size + 1, 0, none⟩ p0
  have s0 : w.heap.size < w1.heap.size := by omega
  clear hb
  go_wp2_with fail
  refine (impl_placesOk n3 _ (HI.out.below HB1.out) HKN.out (by omega) (by omega)).mono ?_
  rintro e wq ⟨rfl, hw⟩
  subst wq
  rw [HP.out]
  go_wp2_with fail
  refine bodyPost_ret (v := .tuple #[.agg #[.slice none 0 0, .slice none 0 0, .slice none 0 0], .bool false]) ?_ rfl ⟨_, rfl, own_dk0, ?_⟩
  · simp (maxDischargeDepth := 9) [results, Try.results16, go_sem, *]
  · exact ((HB1.out.setCell (by show w.heap.size ≤ w.heap.size + 1; omega) _).setCell (by show w.heap.size ≤ w.heap.size + 1; omega) _).setCell (by show w.heap.size ≤ w.heap.size + 1; omega) _
set_option maxRecDepth 100000 in
set_option maxHeartbeats 16000000 in
theorem impl_Crash_go {v : Value} {d : DK} {A : Option Addr} {cap : Nat} {ks : List Int} (t : Int) (w : World) (h : DkRow w v d) (hl : DkLil d) (hi : IntRow w A ks) (hk : ks.length ≤ 1048576) (hd : diskB d = true) (hp : keepB ks d.ops.length = true) (ht : 0 ≤ t) (ht9 : t ≤ 9223372036854775807) :
    Calls Try.prog 16 #[v, .slice A ks.length cap, .int .i64 t] w fun e w' => ∃ v', e = .returned (.tuple #[v', .bool (crK d ks t)]) ∧ DkOwn w' w.heap.size v' (crD d ks t) ∧ Below w.heap.size w w' := by
  have HR : Hid (DkRow w v d) := h
  have HL : Hid (DkLil d) := hl
  have HI : Hid (IntRow w A ks) := hi
  obtain ⟨A1, c1, A2, c2, A3, c3, rfl, r1, r2, r3, z1, z2, z3⟩ := h
  obtain ⟨n1, HN1⟩ : ∃ n1, Hid (d.live.length = n1) := ⟨_, rfl⟩
  obtain ⟨n2, HN2⟩ : ∃ n2, Hid (d.safe.length = n2) := ⟨_, rfl⟩
  obtain ⟨n3, HN3⟩ : ∃ n3, Hid (d.ops.length = n3) := ⟨_, rfl⟩
  obtain ⟨kn, HKN⟩ : ∃ kn, Hid (ks.length = kn) := ⟨_, rfl⟩
  have hn3 : n3 ≤ 1048576 := by rw [← HN3.out]; exact hl.n3
  rw [HN1.out, HN2.out, HN3.out] at HR
  rw [HN1.out, HN2.out, HN3.out, HKN.out]
  rw [HKN.out] at hk
  have HR2 : Hid (FiRow w A2 d.safe) := r2
  have HR3 : Hid (DpRow w A3 d.ops) := r3
  clear r1 r2 r3 z1 z2 z3 hl hi
  have HRR : Hid (diskB d = true) := hd
  have HKL : Hid (ks.length ≤ d.ops.length) := keep_len hp
  have HCK : Hid (crK d ks t = fitB (crF d ks t)) := crK_yes hd hp ht
  rw [HN3.out] at hp
  have HP : Hid (keepB ks n3 = true) := hp
  have HOK : Hid (∀ j, j < kn → okK ks n3 j) := by rw [← HKN.out]; exact keep_all hp
  have HFO : Hid (∀ x ∈ d.ops, formB x = true) := disk_forms hd
  obtain ⟨q1, q2, q3⟩ := disk_parts hd
  obtain ⟨l60, lup, lnm, ltt⟩ := files_parts q2
  have HUP : Hid (Up fiK d.safe) := lup
  have HTS : Hid (totL d.safe ≤ 200000) := ltt
  have HFK : Hid (∀ y ∈ d.safe, fiOk y) := fun y hy => fiOk_of (HL.out.l2 y hy)
  rw [HN2.out] at l60
  rw [HN3.out] at q3
  have hkn : kn ≤ 200 := by have := HKL.out; rw [HKN.out, HN3.out] at this; omega
  have HTOT : Hid (∀ i, i ≤ kn → totL (crT d.ops ks t d.safe i) ≤ 1099510000000) := by
    show ∀ i, _
    intro i hi
    have h1 := crT_tot (S := d.safe) (t := t) HN3.out HL.out.l3 i (fun j hj => HOK.out j (by omega))
    have h2 := HTS.out
    have h3 : i * 1048576 ≤ 200 * 1048576 := Nat.mul_le_mul_right _ (by omega)
    omega
  clear hd hp q1 q2 lup lnm ltt
  have ht2 : ¬ t < 0 := by omega
  go_enter Try.func16, Try.ntmps16
  go_wp2_with fail
  refine (impl_DiskOk _ (HR.out.below (by go_grown)) HL.out).mono ?_
  rintro e w1 ⟨rfl, hb⟩
  rw [HRR.out]
  have k0 := cy hb (b := w.heap.size) (o := 0) (x := .slice A1 n1 c1) (by go_simp)
  have k1 := cy hb (b := w.heap.size) (o := 1) (x := .slice A2 n2 c2) (by go_simp)
  have k2 := cy hb (b := w.heap.size) (o := 2) (x := .slice A3 n3 c3) (by go_simp)
  have p0 := cy hb (b := w.heap.size + 1) (o := 0) (x := .slice none 0 0) (by go_simp)
  have p1 := cy hb (b := w.heap.size + 1) (o := 1) (x := .slice none 0 0) (by go_simp)
  have p2 := cy hb (b := w.heap.size + 1) (o := 2) (x := .slice none 0 0) (by go_simp)
  have pf : ∀ o, w1.frozen? ⟨w.heap.size + 1, o, none⟩ = false := fun o => by
    rw [hb.frozen (p := ⟨w.heap.size + 1, o, none⟩) (by simp)]
    go_simp
  have HB1 : Hid (Below w.heap.size w w1) := Below.trans (by go_grown) (hb.mono (by simp; omega))
  have s1 : w.heap.size + 1 < w1.heap.size := World.block_lt_of_cell? w1 ⟨w.heap.size + 1, 0, none⟩ p0
  have s0 : w.heap.size < w1.heap.size := by omega
  clear hb
  go_wp2_with fail
  refine (impl_placesOk n3 _ (HI.out.below HB1.out) HKN.out (by omega) (by omega)).mono ?_
  rintro e wq ⟨rfl, hw⟩
  subst wq
  rw [HP.out]
  go_wp2_with fail
  refine (impl_folderOf _ (HR2.out.below HB1.out) HN2.out HUP.out (by omega) HFK.out (Nat.le_trans HTS.out (by omega))).mono ?_
  rintro e w2 ⟨rfl, hF, hb⟩
  have HF2 : Hid (FoldL w2 w1.heap.size w1.heap.size n2 d.safe) := hF
  have HB2 : Hid (Below w1.heap.size w1 w2) := hb
  clear hF hb
  go_wp2_with fail
  go_loopw [34] (fun i wr => ∃ m : Nat, m ≤ kn ∧ i = .int .i64 m ∧ FoldL wr w1.heap.size w1.heap.size (n2 + m) (crT d.ops ks t d.safe m) ∧ Below w1.heap.size w1 wr) (fun i _ => kn - (intOf i).toNat)
  case atStart => exact ⟨0, Nat.zero_le _, rfl, HF2.out, HB2.out⟩
  case round =>
    clear HF2 HB2
    obtain ⟨m, hm, rfl, hF, hbel⟩ := hrel
    have HF : Hid (FoldL wr w1.heap.size w1.heap.size (n2 + m) (crT d.ops ks t d.safe m)) := hF
    have HB : Hid (Below w1.heap.size w1 wr) := hbel
    have HBW : Hid (Below w.heap.size w wr) := bchain HB1.out hbel
    have zr : w1.heap.size ≤ wr.heap.size := hbel.size
    replace k0 := cy hbel k0
    replace k1 := cy hbel k1
    replace k2 := cy hbel k2
    replace p0 := cy hbel p0
    replace p1 := cy hbel p1
    replace p2 := cy hbel p2
    replace pf : ∀ o, wr.frozen? ⟨w.heap.size + 1, o, none⟩ = false := fun o => by
      rw [hbel.frozen (p := ⟨w.heap.size + 1, o, none⟩) s1]
      exact pf o
    have r1 : w.heap.size + 1 < wr.heap.size := by omega
    have r0 : w.heap.size < wr.heap.size := by omega
    clear hF hbel
    obtain ⟨LL, HLL⟩ : ∃ LL, Hid (crT d.ops ks t d.safe m = LL) := ⟨_, rfl⟩
    have HTL : Hid (totL LL ≤ 1099510000000) := by rw [← HLL.out]; exact HTOT.out m hm
    rw [HLL.out] at HF
    by_cases hlt : m < kn
    · obtain ⟨bk, ok, rfl, hl9, c00⟩ := HI.out.2 m (by rw [HKN.out]; exact hlt)
      have hok := HOK.out m hlt
      obtain ⟨p, hp⟩ : ∃ p : Nat, kAt ks m = (p : Int) := ⟨(kAt ks m).toNat, by have := hok.1; omega⟩
      have HPK : Hid (kAt ks m = (p : Int)) := hp
      have c0 : wr.cell? ⟨bk, ok + m, none⟩ = some (.int .i64 (p : Int)) := by
        rw [HBW.out.cell (p := ⟨bk, ok + m, none⟩) hl9, ← hp]; exact c00
      have hp3 : p < n3 := by have := hok.2.1; omega
      obtain ⟨x, hx⟩ := at_lt HN3.out hp3
      have HXT : Hid (d.ops[(kAt ks m).toNat]? = some x) := by rw [hp]; exact hx
      obtain ⟨b, o, rfl, hl8, hc⟩ := HR3.out.2 p x hx
      have e0 : wr.cell? ⟨b, o + p * 4, none⟩ = some (.int .i64 x.k) := (HBW.out.cell (p := ⟨b, o + p * 4, none⟩) hl8).trans (hc 0 _ rfl)
      have e1 : wr.cell? ⟨b, o + p * 4 + 1, none⟩ = some (.string x.n) := (HBW.out.cell (p := ⟨b, o + p * 4 + 1, none⟩) hl8).trans (hc 1 _ rfl)
      have e2 : wr.cell? ⟨b, o + p * 4 + 2, none⟩ = some (.string x.t) := (HBW.out.cell (p := ⟨b, o + p * 4 + 2, none⟩) hl8).trans (hc 2 _ rfl)
      have e3 : wr.cell? ⟨b, o + p * 4 + 3, none⟩ = some (.string x.d) := (HBW.out.cell (p := ⟨b, o + p * 4 + 3, none⟩) hl8).trans (hc 3 _ rfl)
      have hb8 : b < wr.heap.size := Nat.lt_of_lt_of_le hl8 HBW.out.size
      have hb9 : bk < wr.heap.size := Nat.lt_of_lt_of_le hl9 HBW.out.size
      have HXL : Hid (dpLil x) := HL.out.l3 x (List.mem_of_getElem? hx)
      have hfk := form_kind (HFO.out x (List.mem_of_getElem? hx))
      clear c00 hc hx hok hp
      have h0 : (0 : Int) ≤ (m : Int) := by omega
      have h1 : (m : Int) < (kn : Int) := by omega
      have h2 : (0 : Int) ≤ (p : Int) := by omega
      have h3 : (p : Int) < (n3 : Int) := by omega
      have hd1 : x.d.size ≤ 1048576 := HXL.out.2.2
      have hn1 : x.n.size ≤ maxLen := (dpOk_of HXL.out).1
      have ht1 : x.t.size ≤ maxLen := (dpOk_of HXL.out).2.1
      have hdm : x.d.size ≤ maxLen := (dpOk_of HXL.out).2.2
      obtain ⟨xk, xn, xt, xd⟩ := x
      have hd1 : xd.size ≤ 1048576 := hd1
      have HN : Hid (xn.size ≤ maxLen) := hn1
      have HT : Hid (xt.size ≤ maxLen) := ht1
      have HDM : Hid (xd.size ≤ maxLen) := hdm
      clear hn1 ht1 hdm
      have hfk : xk = 1 ∨ xk = 2 ∨ xk = 3 := hfk
      dsimp only at e0 e1 e2 e3
      rcases hfk with rfl | rfl | rfl
      · by_cases hla : m + 1 = kn
        · have hlb : (kn : Int) - 1 = (m : Int) := by omega
          have HY : Hid (crX d.ops ks t m = ⟨1, xn, xt, (tornS xd t)⟩) := by rw [crX_last HXT.out (by rw [HKN.out]; exact hla)]; rfl
          have HG : Hid (crT d.ops ks t d.safe (m + 1) = addK xn (tornS xd t) LL) := by show doM (crX d.ops ks t m) (crT d.ops ks t d.safe m) = _; rw [HY.out, HLL.out]; rfl
          have hdd : (tornS xd t).size ≤ 1099511627776 := by have := tornS_size xd t; omega
          go_wp2_with (first
            | (go_at_call 51; refine (fileOpOf_1 xn xt xd _ HN.out HT.out).mono ?_; rintro e u1 ⟨rfl, hb⟩; have U1 : Hid (Below wr.heap.size wr u1) := Below.trans (by go_grown) (hb.mono (by simp)); clear hb)
            | (go_at_call 145; refine (appending_torn xn xd t _ ht ht9 HDM.out).mono ?_; rintro e u2 ⟨rfl, hb⟩; have U2 : Hid (Below wr.heap.size wr u2) := bchain U1.out hb; clear hb)
            | (go_at_call 144; refine (appending_finds xn (tornS xd t) _).mono ?_; rintro e u3 ⟨rfl, hb⟩; have U3 : Hid (Below wr.heap.size wr u3) := bchain U2.out hb; clear hb)
            | (go_at_call 143; refine (appending_doOn xn (tornS xd t) _ (HF.out.below U3.out) (Nat.le_trans zr U3.out.size) HN.out (by omega) hdd (Nat.le_trans HTL.out (by omega))).mono ?_; rintro e u4 ⟨rfl, hF4, hb⟩; have HF4 : Hid (FoldL u4 w1.heap.size w1.heap.size (n2 + m + 1) (addK xn (tornS xd t) LL)) := hF4; have U4 : Hid (Below w1.heap.size w1 u4) := (Below.trans HB.out (U3.out.mono zr)).trans hb; clear hb hF4)
            | go_in)
          go_roundw
          case rel => exact ⟨m + 1, by omega, by go_num, by rw [HG.out]; exact HF4.out, U4.out⟩
          case measure => simp [intOf]; omega
        · have hlb : ¬ (m : Int) = (kn : Int) - 1 := by omega
          have hlc : ((m : Int) == (kn : Int) - 1) = false := by simpa using hlb
          have HY : Hid (crX d.ops ks t m = ⟨1, xn, xt, xd⟩) := crX_else HXT.out (by rw [HKN.out]; exact hla)
          have HG : Hid (crT d.ops ks t d.safe (m + 1) = addK xn xd LL) := by show doM (crX d.ops ks t m) (crT d.ops ks t d.safe m) = _; rw [HY.out, HLL.out]; rfl
          have hdd : xd.size ≤ 1099511627776 := by omega
          go_wp2_with (first
            | (go_at_call 51; refine (fileOpOf_1 xn xt xd _ HN.out HT.out).mono ?_; rintro e u1 ⟨rfl, hb⟩; have U1 : Hid (Below wr.heap.size wr u1) := Below.trans (by go_grown) (hb.mono (by simp)); clear hb)
            | (go_at_call 144; refine (appending_finds xn xd _).mono ?_; rintro e u3 ⟨rfl, hb⟩; have U3 : Hid (Below wr.heap.size wr u3) := bchain U1.out hb; clear hb)
            | (go_at_call 143; refine (appending_doOn xn xd _ (HF.out.below U3.out) (Nat.le_trans zr U3.out.size) HN.out (by omega) hdd (Nat.le_trans HTL.out (by omega))).mono ?_; rintro e u4 ⟨rfl, hF4, hb⟩; have HF4 : Hid (FoldL u4 w1.heap.size w1.heap.size (n2 + m + 1) (addK xn xd LL)) := hF4; have U4 : Hid (Below w1.heap.size w1 u4) := (Below.trans HB.out (U3.out.mono zr)).trans hb; clear hb hF4)
            | go_in)
          go_roundw
          case rel => exact ⟨m + 1, by omega, by go_num, by rw [HG.out]; exact HF4.out, U4.out⟩
          case measure => simp [intOf]; omega
      · obtain ⟨fb, HFB⟩ : ∃ fb, Hid (hasB xn LL = fb) := ⟨_, rfl⟩
        by_cases hla : m + 1 = kn
        · have hlb : (kn : Int) - 1 = (m : Int) := by omega
          cases fb
          · have HFI : Hid (findB ⟨2, xn, xt, xd⟩ LL = false) := HFB.out
            have HY : Hid (crX d.ops ks t m = ⟨2, xn, xt, xd⟩) := by rw [crX_last HXT.out (by rw [HKN.out]; exact hla)]; rfl
            have HG : Hid (crT d.ops ks t d.safe (m + 1) = LL) := by show doM (crX d.ops ks t m) (crT d.ops ks t d.safe m) = _; rw [HY.out, HLL.out, doM_no HFI.out]
            go_wp2_with (first
              | (go_at_call 51; refine (fileOpOf_2 xn xt xd _ HN.out HT.out).mono ?_; rintro e u1 ⟨rfl, hb⟩; have U1 : Hid (Below wr.heap.size wr u1) := Below.trans (by go_grown) (hb.mono (by simp)); clear hb)
              | (go_at_call 148; refine (renaming_torn xn xt t _).mono ?_; rintro e u2 ⟨rfl, hb⟩; have U2 : Hid (Below wr.heap.size wr u2) := bchain U1.out hb; clear hb)
              | (go_at_call 147; refine (renaming_finds xn xt _ (HF.out.below U2.out) HN.out).mono ?_; rintro e u3 ⟨rfl, hb⟩; rw [HFB.out]; have U3 : Hid (Below wr.heap.size wr u3) := bchain U2.out hb; clear hb)
              | go_in)
            go_roundw
            case rel => exact ⟨m + 1, by omega, by go_num, by rw [HG.out]; exact (HF.out.below U3.out).more, Below.trans HB.out (U3.out.mono zr)⟩
            case measure => simp [intOf]; omega
          · have HFI : Hid (findB ⟨2, xn, xt, xd⟩ LL = true) := HFB.out
            have HY : Hid (crX d.ops ks t m = ⟨2, xn, xt, xd⟩) := by rw [crX_last HXT.out (by rw [HKN.out]; exact hla)]; rfl
            have HG : Hid (crT d.ops ks t d.safe (m + 1) = putK fiK ⟨xt, dataK xn.data.toList LL⟩ (cutK fiK xn.data.toList LL)) := by show doM (crX d.ops ks t m) (crT d.ops ks t d.safe m) = _; rw [HY.out, HLL.out, doM_yes HFI.out]; rfl
            go_wp2_with (first
              | (go_at_call 51; refine (fileOpOf_2 xn xt xd _ HN.out HT.out).mono ?_; rintro e u1 ⟨rfl, hb⟩; have U1 : Hid (Below wr.heap.size wr u1) := Below.trans (by go_grown) (hb.mono (by simp)); clear hb)
              | (go_at_call 148; refine (renaming_torn xn xt t _).mono ?_; rintro e u2 ⟨rfl, hb⟩; have U2 : Hid (Below wr.heap.size wr u2) := bchain U1.out hb; clear hb)
              | (go_at_call 147; refine (renaming_finds xn xt _ (HF.out.below U2.out) HN.out).mono ?_; rintro e u3 ⟨rfl, hb⟩; rw [HFB.out]; have U3 : Hid (Below wr.heap.size wr u3) := bchain U2.out hb; clear hb)
              | (go_at_call 146; refine (renaming_doOn xn xt _ (HF.out.below U3.out) (Nat.le_trans zr U3.out.size) HN.out HT.out (by omega) HFB.out).mono ?_; rintro e u4 ⟨rfl, hF4, hb⟩; have HF4 : Hid (FoldL u4 w1.heap.size w1.heap.size (n2 + m + 1) (putK fiK ⟨xt, dataK xn.data.toList LL⟩ (cutK fiK xn.data.toList LL))) := hF4; have U4 : Hid (Below w1.heap.size w1 u4) := (Below.trans HB.out (U3.out.mono zr)).trans hb; clear hb hF4)
              | go_in)
            go_roundw
            case rel => exact ⟨m + 1, by omega, by go_num, by rw [HG.out]; exact HF4.out, U4.out⟩
            case measure => simp [intOf]; omega
        · have hlb : ¬ (m : Int) = (kn : Int) - 1 := by omega
          have hlc : ((m : Int) == (kn : Int) - 1) = false := by simpa using hlb
          cases fb
          · have HFI : Hid (findB ⟨2, xn, xt, xd⟩ LL = false) := HFB.out
            have HY : Hid (crX d.ops ks t m = ⟨2, xn, xt, xd⟩) := crX_else HXT.out (by rw [HKN.out]; exact hla)
            have HG : Hid (crT d.ops ks t d.safe (m + 1) = LL) := by show doM (crX d.ops ks t m) (crT d.ops ks t d.safe m) = _; rw [HY.out, HLL.out, doM_no HFI.out]
            go_wp2_with (first
              | (go_at_call 51; refine (fileOpOf_2 xn xt xd _ HN.out HT.out).mono ?_; rintro e u1 ⟨rfl, hb⟩; have U1 : Hid (Below wr.heap.size wr u1) := Below.trans (by go_grown) (hb.mono (by simp)); clear hb)
              | (go_at_call 147; refine (renaming_finds xn xt _ (HF.out.below U1.out) HN.out).mono ?_; rintro e u3 ⟨rfl, hb⟩; rw [HFB.out]; have U3 : Hid (Below wr.heap.size wr u3) := bchain U1.out hb; clear hb)
              | go_in)
            go_roundw
            case rel => exact ⟨m + 1, by omega, by go_num, by rw [HG.out]; exact (HF.out.below U3.out).more, Below.trans HB.out (U3.out.mono zr)⟩
            case measure => simp [intOf]; omega
          · have HFI : Hid (findB ⟨2, xn, xt, xd⟩ LL = true) := HFB.out
            have HY : Hid (crX d.ops ks t m = ⟨2, xn, xt, xd⟩) := crX_else HXT.out (by rw [HKN.out]; exact hla)
            have HG : Hid (crT d.ops ks t d.safe (m + 1) = putK fiK ⟨xt, dataK xn.data.toList LL⟩ (cutK fiK xn.data.toList LL)) := by show doM (crX d.ops ks t m) (crT d.ops ks t d.safe m) = _; rw [HY.out, HLL.out, doM_yes HFI.out]; rfl
            go_wp2_with (first
              | (go_at_call 51; refine (fileOpOf_2 xn xt xd _ HN.out HT.out).mono ?_; rintro e u1 ⟨rfl, hb⟩; have U1 : Hid (Below wr.heap.size wr u1) := Below.trans (by go_grown) (hb.mono (by simp)); clear hb)
              | (go_at_call 147; refine (renaming_finds xn xt _ (HF.out.below U1.out) HN.out).mono ?_; rintro e u3 ⟨rfl, hb⟩; rw [HFB.out]; have U3 : Hid (Below wr.heap.size wr u3) := bchain U1.out hb; clear hb)
              | (go_at_call 146; refine (renaming_doOn xn xt _ (HF.out.below U3.out) (Nat.le_trans zr U3.out.size) HN.out HT.out (by omega) HFB.out).mono ?_; rintro e u4 ⟨rfl, hF4, hb⟩; have HF4 : Hid (FoldL u4 w1.heap.size w1.heap.size (n2 + m + 1) (putK fiK ⟨xt, dataK xn.data.toList LL⟩ (cutK fiK xn.data.toList LL))) := hF4; have U4 : Hid (Below w1.heap.size w1 u4) := (Below.trans HB.out (U3.out.mono zr)).trans hb; clear hb hF4)
              | go_in)
            go_roundw
            case rel => exact ⟨m + 1, by omega, by go_num, by rw [HG.out]; exact HF4.out, U4.out⟩
            case measure => simp [intOf]; omega
      · obtain ⟨fb, HFB⟩ : ∃ fb, Hid (hasB xn LL = fb) := ⟨_, rfl⟩
        by_cases hla : m + 1 = kn
        · have hlb : (kn : Int) - 1 = (m : Int) := by omega
          cases fb
          · have HFI : Hid (findB ⟨3, xn, xt, xd⟩ LL = false) := HFB.out
            have HY : Hid (crX d.ops ks t m = ⟨3, xn, xt, xd⟩) := by rw [crX_last HXT.out (by rw [HKN.out]; exact hla)]; rfl
            have HG : Hid (crT d.ops ks t d.safe (m + 1) = LL) := by show doM (crX d.ops ks t m) (crT d.ops ks t d.safe m) = _; rw [HY.out, HLL.out, doM_no HFI.out]
            go_wp2_with (first
              | (go_at_call 51; refine (fileOpOf_3 xn xt xd _ HN.out HT.out).mono ?_; rintro e u1 ⟨rfl, hb⟩; have U1 : Hid (Below wr.heap.size wr u1) := Below.trans (by go_grown) (hb.mono (by simp)); clear hb)
              | (go_at_call 152; refine (removing_torn xn t _).mono ?_; rintro e u2 ⟨rfl, hb⟩; have U2 : Hid (Below wr.heap.size wr u2) := bchain U1.out hb; clear hb)
              | (go_at_call 151; refine (removing_finds xn _ (HF.out.below U2.out) HN.out).mono ?_; rintro e u3 ⟨rfl, hb⟩; rw [HFB.out]; have U3 : Hid (Below wr.heap.size wr u3) := bchain U2.out hb; clear hb)
              | go_in)
            go_roundw
            case rel => exact ⟨m + 1, by omega, by go_num, by rw [HG.out]; exact (HF.out.below U3.out).more, Below.trans HB.out (U3.out.mono zr)⟩
            case measure => simp [intOf]; omega
          · have HFI : Hid (findB ⟨3, xn, xt, xd⟩ LL = true) := HFB.out
            have HY : Hid (crX d.ops ks t m = ⟨3, xn, xt, xd⟩) := by rw [crX_last HXT.out (by rw [HKN.out]; exact hla)]; rfl
            have HG : Hid (crT d.ops ks t d.safe (m + 1) = cutK fiK xn.data.toList LL) := by show doM (crX d.ops ks t m) (crT d.ops ks t d.safe m) = _; rw [HY.out, HLL.out, doM_yes HFI.out]; rfl
            go_wp2_with (first
              | (go_at_call 51; refine (fileOpOf_3 xn xt xd _ HN.out HT.out).mono ?_; rintro e u1 ⟨rfl, hb⟩; have U1 : Hid (Below wr.heap.size wr u1) := Below.trans (by go_grown) (hb.mono (by simp)); clear hb)
              | (go_at_call 152; refine (removing_torn xn t _).mono ?_; rintro e u2 ⟨rfl, hb⟩; have U2 : Hid (Below wr.heap.size wr u2) := bchain U1.out hb; clear hb)
              | (go_at_call 151; refine (removing_finds xn _ (HF.out.below U2.out) HN.out).mono ?_; rintro e u3 ⟨rfl, hb⟩; rw [HFB.out]; have U3 : Hid (Below wr.heap.size wr u3) := bchain U2.out hb; clear hb)
              | (go_at_call 150; refine (removing_doOn xn _ (HF.out.below U3.out) (Nat.le_trans zr U3.out.size) HN.out).mono ?_; rintro e u4 ⟨rfl, hF4, hb⟩; have HF4 : Hid (FoldL u4 w1.heap.size w1.heap.size (n2 + m + 1) (cutK fiK xn.data.toList LL)) := hF4; have U4 : Hid (Below w1.heap.size w1 u4) := (Below.trans HB.out (U3.out.mono zr)).trans hb; clear hb hF4)
              | go_in)
            go_roundw
            case rel => exact ⟨m + 1, by omega, by go_num, by rw [HG.out]; exact HF4.out, U4.out⟩
            case measure => simp [intOf]; omega
        · have hlb : ¬ (m : Int) = (kn : Int) - 1 := by omega
          have hlc : ((m : Int) == (kn : Int) - 1) = false := by simpa using hlb
          cases fb
          · have HFI : Hid (findB ⟨3, xn, xt, xd⟩ LL = false) := HFB.out
            have HY : Hid (crX d.ops ks t m = ⟨3, xn, xt, xd⟩) := crX_else HXT.out (by rw [HKN.out]; exact hla)
            have HG : Hid (crT d.ops ks t d.safe (m + 1) = LL) := by show doM (crX d.ops ks t m) (crT d.ops ks t d.safe m) = _; rw [HY.out, HLL.out, doM_no HFI.out]
            go_wp2_with (first
              | (go_at_call 51; refine (fileOpOf_3 xn xt xd _ HN.out HT.out).mono ?_; rintro e u1 ⟨rfl, hb⟩; have U1 : Hid (Below wr.heap.size wr u1) := Below.trans (by go_grown) (hb.mono (by simp)); clear hb)
              | (go_at_call 151; refine (removing_finds xn _ (HF.out.below U1.out) HN.out).mono ?_; rintro e u3 ⟨rfl, hb⟩; rw [HFB.out]; have U3 : Hid (Below wr.heap.size wr u3) := bchain U1.out hb; clear hb)
              | go_in)
            go_roundw
            case rel => exact ⟨m + 1, by omega, by go_num, by rw [HG.out]; exact (HF.out.below U3.out).more, Below.trans HB.out (U3.out.mono zr)⟩
            case measure => simp [intOf]; omega
          · have HFI : Hid (findB ⟨3, xn, xt, xd⟩ LL = true) := HFB.out
            have HY : Hid (crX d.ops ks t m = ⟨3, xn, xt, xd⟩) := crX_else HXT.out (by rw [HKN.out]; exact hla)
            have HG : Hid (crT d.ops ks t d.safe (m + 1) = cutK fiK xn.data.toList LL) := by show doM (crX d.ops ks t m) (crT d.ops ks t d.safe m) = _; rw [HY.out, HLL.out, doM_yes HFI.out]; rfl
            go_wp2_with (first
              | (go_at_call 51; refine (fileOpOf_3 xn xt xd _ HN.out HT.out).mono ?_; rintro e u1 ⟨rfl, hb⟩; have U1 : Hid (Below wr.heap.size wr u1) := Below.trans (by go_grown) (hb.mono (by simp)); clear hb)
              | (go_at_call 151; refine (removing_finds xn _ (HF.out.below U1.out) HN.out).mono ?_; rintro e u3 ⟨rfl, hb⟩; rw [HFB.out]; have U3 : Hid (Below wr.heap.size wr u3) := bchain U1.out hb; clear hb)
              | (go_at_call 150; refine (removing_doOn xn _ (HF.out.below U3.out) (Nat.le_trans zr U3.out.size) HN.out).mono ?_; rintro e u4 ⟨rfl, hF4, hb⟩; have HF4 : Hid (FoldL u4 w1.heap.size w1.heap.size (n2 + m + 1) (cutK fiK xn.data.toList LL)) := hF4; have U4 : Hid (Below w1.heap.size w1 u4) := (Below.trans HB.out (U3.out.mono zr)).trans hb; clear hb hF4)
              | go_in)
            go_roundw
            case rel => exact ⟨m + 1, by omega, by go_num, by rw [HG.out]; exact HF4.out, U4.out⟩
            case measure => simp [intOf]; omega
    · have h1 : ¬ (m : Int) < (kn : Int) := by omega
      obtain rfl : m = kn := by omega
      have HLF : Hid (crF d ks t = LL) := by show _ = _; rw [crF, HKN.out]; exact HLL.out
      obtain ⟨ft, HFT⟩ : ∃ ft, Hid (fitB LL = ft) := ⟨_, rfl⟩
      have HCB : Hid (crK d ks t = ft) := by show _ = _; rw [HCK.out, HLF.out]; exact HFT.out
      have htl : totL LL ≤ 1099511627776 := Nat.le_trans HTL.out (by omega)
      go_wp2_with fail
      refine (impl_fits _ (HF.out.below (by go_grown)) htl (by omega)).mono ?_
      rintro e u5 ⟨rfl, hb⟩
      rw [HFT.out]
      have U5 : Hid (Below wr.heap.size wr u5) := Below.trans (by go_grown) hb
      have HB5 : Hid (Below w.heap.size w u5) := bchain HBW.out U5.out
      replace p0 := cy U5.out p0
      replace p1 := cy U5.out p1
      replace p2 := cy U5.out p2
      replace pf : ∀ o, u5.frozen? ⟨w.heap.size + 1, o, none⟩ = false := fun o => by
        rw [U5.out.frozen (p := ⟨w.heap.size + 1, o, none⟩) r1]
        exact pf o
      have z5 : wr.heap.size ≤ u5.heap.size := U5.out.size
      have y1 : w.heap.size + 1 < u5.heap.size := by omega
      clear hb k0 k1 k2
      cases ft
      · go_wp2_with fail
        refine bodyPost_ret (v := .tuple #[.agg #[.slice none 0 0, .slice none 0 0, .slice none 0 0], .bool false]) ?_ rfl ⟨_, by rw [HCB.out], by rw [crD_no HCB.out]; exact own_dk0, ?_⟩
        · simp (maxDischargeDepth := 9) [results, Try.results16, go_sem, *]
        · exact ((HB5.out.setCell (by show w.heap.size ≤ w.heap.size + 1; omega) _).setCell (by show w.heap.size ≤ w.heap.size + 1; omega) _).setCell (by show w.heap.size ≤ w.heap.size + 1; omega) _
      · go_wp2_with fail
        refine (impl_inOrder _ (HF.out.below U5.out) htl (by omega)).mono ?_
        rintro e u6 ⟨vl, rfl, hl6, hb⟩
        obtain ⟨E1, f1, rfl, y2, y3⟩ := own_shape hl6
        have HL6 : Hid (FiRow u6 E1 LL) := RowAt.of_own fiL_len hl6 rfl
        have HZ6 : Hid (E1 = none → f1 = 0) := own_nocap hl6
        have HB6 : Hid (Below w.heap.size w u6) := bchain HB5.out hb
        have hb6 : Below u5.heap.size u5 u6 := hb
        have z6 := hb.size
        replace p0 := cy hb p0
        replace p1 := cy hb p1
        replace p2 := cy hb p2
        replace pf : ∀ o, u6.frozen? ⟨w.heap.size + 1, o, none⟩ = false := fun o => by
          rw [hb.frozen (p := ⟨w.heap.size + 1, o, none⟩) y1]
          exact pf o
        have y4 : w.heap.size + 1 < u6.heap.size := by omega
        have hfl := (fit_len HFT.out).1
        clear hb hb6 hl6 y2 y3
        go_wp2_with fail
        refine (impl_synced _ HL6.out rfl HZ6.out (by omega)).mono ?_
        rintro e u7 ⟨vs, rfl, ho, hb⟩
        have HO7 : Hid (DkOwn u7 (w.heap.size + 2) vs ⟨LL, LL, []⟩) := ho.monoJ (by omega)
        have HB7 : Hid (Below w.heap.size w u7) := bchain HB6.out hb
        have z7 := hb.size
        replace p0 := cy hb p0
        replace p1 := cy hb p1
        replace p2 := cy hb p2
        replace pf : ∀ o, u7.frozen? ⟨w.heap.size + 1, o, none⟩ = false := fun o => by
          rw [hb.frozen (p := ⟨w.heap.size + 1, o, none⟩) y4]
          exact pf o
        have y7 : w.heap.size + 1 < u7.heap.size := by omega
        obtain ⟨v1, v2, v3, rfl, g1, g2, g3, g4⟩ := ho
        obtain ⟨D1, b1, rfl, t1, t2⟩ := own_shape g1
        obtain ⟨D2, b2, rfl, t3, t4⟩ := own_shape g2
        obtain ⟨D3, b3, rfl, t5, t6⟩ := own_shape g3
        clear hb g1 g2 g3 g4 t1 t2 t3 t4 t5 t6
        go_wp2_with fail
        refine bodyPost_ret (v := .tuple #[.agg #[.slice D1 (DK.mk LL LL []).live.length b1, .slice D2 (DK.mk LL LL []).safe.length b2, .slice D3 (DK.mk LL LL []).ops.length b3], .bool true]) ?_ rfl ⟨_, by rw [HCB.out], ?_, ?_⟩
        · simp (maxDischargeDepth := 9) [results, Try.results16, go_sem, *]
        · rw [crD_yes HCB.out, HLF.out]; exact (((HO7.out.setJ (by omega) _ _).setJ (by omega) _ _).setJ (by omega) _ _).monoJ (by omega)
        · exact ((HB7.out.setCell (by show w.heap.size ≤ w.heap.size + 1; omega) _).setCell (by show w.heap.size ≤ w.heap.size + 1; omega) _).setCell (by show w.heap.size ≤ w.heap.size + 1; omega) _
theorem impl_Crash {v : Value} {d : DK} {A : Option Addr} {cap : Nat} {ks : List Int} (t : Int) (w : World) (h : DkRow w v d) (hl : DkLil d) (hi : IntRow w A ks) (hk : ks.length ≤ 1048576) (ht9 : t ≤ 9223372036854775807) :
    Calls Try.prog 16 #[v, .slice A ks.length cap, .int .i64 t] w fun e w' => ∃ v', e = .returned (.tuple #[v', .bool (crK d ks t)]) ∧ DkOwn w' w.heap.size v' (crD d ks t) ∧ Below w.heap.size w w' := by
  cases hd : diskB d with
  | false => exact impl_Crash_no t w h hl hi hk hd
  | true =>
    cases hp : keepB ks d.ops.length with
    | false => exact impl_Crash_kp t w h hl hi hk hd hp
    | true =>
      by_cases ht : 0 ≤ t
      · exact impl_Crash_go t w h hl hi hk hd hp ht ht9
      · exact impl_Crash_tn t w h hl hi hk hd hp ht
end Go.Proofs.Ytanjlpgdmnapdaa
