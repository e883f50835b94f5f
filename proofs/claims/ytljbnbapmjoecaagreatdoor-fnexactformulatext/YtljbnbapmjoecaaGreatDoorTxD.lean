import Derived.Test.YtljbnbapmjoecaaGreatDoorTxC
namespace Go.Proofs.YtljbnbapmjoecaaGreatDoor
open Go.RowKit
set_option linter.unusedSimpArgs false
set_option linter.unusedVariables false

theorem ref_nat {c r : Int} (h : refOkB c r = true) : ∃ i : Nat, r = (i : Int) ∧ i < 100 := by
  have := of_decide_eq_true h
  exact ⟨r.toNat, by omega, by omega⟩
theorem bdX_small {F : Nat → FN} {n : Nat} (h : fOkB F n = true) {i : Nat} (hi : i < n) (hd : deep (fG F) i ≤ 12) (z : Int) : (bdX F i z).length ≤ 116977784950520 := by
  have := TX_small h hi hd
  unfold bdX
  split
  · simp only [List.length_append, List.length_cons, List.length_nil]; omega
  · omega
/-- impl.nodeText at each node of a right formula. -/
theorem impl_nodeText {A : Option Addr} {n cap : Nat} {F : Nat → FN} (h : fOkB F n = true) : ∀ i, i < n → deep (fG F) i ≤ 12 → NtC A n cap F i := by
  obtain ⟨h1, h60, hn, hr, hdr⟩ := fOk_in h
  intro i
  induction i using Nat.strongRecOn with
  | ind i ih =>
    intro hi hd
    have kid : ∀ c ∈ (F i).kids, (0 ≤ c ∧ c < (i : Int)) ∧ deep (fG F) c ≤ 12 := fun c hc => by
      have h2 := hr i hi c hc
      have h3 := deep_kid hr hi hc
      exact ⟨h2, by omega⟩
    have nt : ∀ a : Nat, (a : Int) ∈ (F i).kids → a < n ∧ deep (fG F) a ≤ 12 ∧ NtC A n cap F a := fun a ha => by
      have h2 := kid a ha
      exact ⟨by omega, h2.2, ih a (by omega) (by omega) h2.2⟩
    have bo : ∀ a : Nat, a < n → ((F a).k = 5 → 1 ≤ (F a).o ∧ (F a).o ≤ 11) := fun a ha hk5 => by
      rcases node_kinds (hn a ha) with ⟨e, _⟩ | ⟨e, _⟩ | ⟨e, _⟩ | ⟨e, _⟩ | ⟨e, o1, o2, _⟩ | ⟨e, _⟩
      all_goals first
        | exact ⟨o1, o2⟩
        | (exfalso; omega)
    rcases node_kinds (hn i hi) with ⟨hk, hc, hks⟩ | ⟨hk, hc, hks⟩ | ⟨hk, hc, hc', hks⟩ | ⟨hk, c, hks⟩ | ⟨hk, o1, o2, c, d, hks⟩ | ⟨hk, o1, o2, l1, l2⟩
    · intro W KA kc hrow hg hki
      obtain ⟨_, _, _, _, _, _, _, _, hcs⟩ := hrow.2 i hi
      have e : TX F i = cstT (F i).ck (F i).cn (F i).cs := by rw [TX_leaf (by omega) (by omega) (by omega), leafT, if_pos hk]
      rw [e]
      unfold ndV
      rw [hk]
      exact impl_nt1 _ _ _ _ _ _ _ _ _ _ _ _ W hcs hc hg
    · intro W KA kc hrow hg hki
      obtain ⟨j, hj, hj9⟩ := ref_nat hc
      have e : bs (TX F i) = placeT (F i).ac j (F i).af (F i).ag := by
        rw [TX_leaf (by omega) (by omega) (by omega), leafT, if_neg (by omega), if_pos hk, plT, hj, Int.toNat_natCast]
        rfl
      rw [e]
      unfold ndV
      rw [hk, hj]
      rw [hj] at hc
      exact impl_nt2 _ _ _ _ _ _ _ _ _ _ _ _ W hj9 hc
    · intro W KA kc hrow hg hki
      obtain ⟨j, hj, hj9⟩ := ref_nat hc
      obtain ⟨j', hj', hj9'⟩ := ref_nat hc'
      have e : bs (TX F i) = placeT (F i).ac j (F i).af (F i).ag ++ (⟨#[58]⟩ : ByteArray) ++ placeT (F i).bc j' (F i).bf (F i).bg := by
        rw [TX_leaf (by omega) (by omega) (by omega), leafT, if_neg (by omega), if_neg (by omega), plT, plT, hj, hj', Int.toNat_natCast, Int.toNat_natCast, ← bs_app, ← bs_app]
        rfl
      rw [e]
      unfold ndV
      rw [hk, hj, hj']
      rw [hj] at hc
      rw [hj'] at hc'
      exact impl_nt3 _ _ _ _ _ _ _ _ _ _ _ _ W hj9 hc hj9' hc'
    · obtain ⟨a, rfl⟩ : ∃ a : Nat, c = (a : Int) := ⟨c.toNat, by have := (kid c (by rw [hks]; simp)).1; omega⟩
      obtain ⟨ha, hda, hna⟩ := nt a (by rw [hks]; simp)
      intro W KA kc hrow hg hki
      have e := TX_neg hr hi hk hks
      rw [Int.toNat_natCast] at e
      rw [e]
      exact impl_nt4 hk hks ha (impl_bt 5 hna (bo a ha) (TX_small h ha hda)) (bdX_small h ha hda 5) W KA kc hrow hg hki
    · obtain ⟨a, rfl⟩ : ∃ a : Nat, c = (a : Int) := ⟨c.toNat, by have := (kid c (by rw [hks]; simp)).1; omega⟩
      obtain ⟨b, rfl⟩ : ∃ a : Nat, d = (a : Int) := ⟨d.toNat, by have := (kid d (by rw [hks]; simp)).1; omega⟩
      obtain ⟨ha, hda, hna⟩ := nt a (by rw [hks]; simp)
      obtain ⟨hb, hdb, hnb⟩ := nt b (by rw [hks]; simp)
      intro W KA kc hrow hg hki
      have e := TX_bin hr hi hk hks
      rw [Int.toNat_natCast, Int.toNat_natCast] at e
      rw [e]
      exact impl_nt5 hk hks ⟨o1, o2⟩ ha hb (impl_bt _ hna (bo a ha) (TX_small h ha hda)) (impl_bt _ hnb (bo b hb) (TX_small h hb hdb)) (bdX_small h ha hda _) (bdX_small h hb hdb _) W KA kc hrow hg hki
    · intro W KA kc hrow hg hki
      exact impl_nt6 hi hr hk ⟨o1, o2⟩ ⟨l1, l2⟩ (fun c hc => ih c.toNat (by have := (kid c hc).1; omega) (by have := (kid c hc).1; omega) (by have h9 := kid c hc; rw [Int.toNat_of_nonneg h9.1.1]; exact h9.2)) (TX_small h hi hd) W KA kc hrow hg hki

/-- The text of a formula: nothing where it is none, or too long. -/
def ftx (F : Nat → FN) (n : Nat) : ByteArray := if fOkB F n = true ∧ (TX F (n - 1)).length ≤ 200 then bs (TX F (n - 1)) else ⟨#[]⟩
set_option maxRecDepth 100000 in
set_option maxHeartbeats 4000000 in
theorem impl_FormulaText {A : Option Addr} {n cap : Nat} {F : Nat → FN} (w : World) (h : FnRow w A n F) (hn : n ≤ 1048576) (hkn : ∀ i, i < n → (F i).kids.length ≤ 1048576) (hg : GT w) :
    Calls Tryz.prog 12 #[.slice A n cap] w fun e w' => e = .returned (.string (ftx F n)) ∧ Below w.heap.size w w' := by
  have HR : Hid (FnRow w A n F) := h
  have HKN : Hid (∀ i, i < n → (F i).kids.length ≤ 1048576) := hkn
  have HG : Hid (GT w) := hg
  clear h hkn hg
  cases hok : fOkB F n
  · have HE : Hid (ftx F n = ⟨#[]⟩) := by show _ = _; unfold ftx; rw [if_neg (fun e => by rw [hok] at e; cases e.1)]
    have HO : Hid (fOkB F n = false) := hok
    clear hok
    go_enter Tryz.func12, Tryz.ntmps12
    go_wp2_with fail
    refine (impl_FormulaOk _ HR.out hn HKN.out HG.out.ft).mono ?_
    rintro e w1 ⟨rfl, hb⟩
    rw [HO.out]
    go_wp2_with fail
    go_ret
    exact ⟨ret_str HE.out.symm, hb⟩
  · have HO : Hid (fOkB F n = true) := hok
    obtain ⟨h1, h60, _, hr, hdr⟩ := fOk_in hok
    obtain ⟨m, rfl⟩ : ∃ m, n = m + 1 := ⟨n - 1, by omega⟩
    have hd : deep (fG F) m ≤ 12 := by have e : (((m + 1 : Nat) : Int) - 1) = (m : Int) := by omega
                                       rw [e] at hdr; exact hdr
    have HN : Hid (NtC A (m + 1) cap F m) := impl_nodeText hok m (by omega) hd
    have hz := TX_small hok (i := m) (by omega) hd
    obtain ⟨t, HT⟩ : ∃ t, Hid (bs (TX F m) = t) := ⟨_, rfl⟩
    have ht : t.size = (TX F m).length := by rw [← HT.out, bs_size]
    have HE1 : Hid (t.size ≤ 200 → t = ftx F (m + 1)) := fun h2 => by unfold ftx; rw [if_pos ⟨hok, by rw [Nat.add_sub_cancel]; omega⟩, Nat.add_sub_cancel, HT.out]
    have HE2 : Hid (¬ t.size ≤ 200 → (⟨#[]⟩ : ByteArray) = ftx F (m + 1)) := fun h2 => by unfold ftx; rw [if_neg (fun e => h2 (by have := e.2; rw [Nat.add_sub_cancel] at this; omega))]
    obtain ⟨N, HNN⟩ : ∃ N, Hid (m + 1 = N) := ⟨_, rfl⟩
    obtain ⟨b, p, KB, kb, rfl, hl, hnd, hks, hcs⟩ := HR.out.2 m (by omega)
    have HK : Hid (IntRow w KB (F m).kids) := hks
    have HND : Hid (NodeAt w b (p + m * 14) (F m) KB kb) := hnd
    clear hnd hks hcs hok hdr hd hr hz
    rw [HNN.out] at HR HKN HO HN HE1 HE2 hn h1 h60 ⊢
    have hmN : (N : Int) - 1 = (m : Int) := by have := HNN.out; omega
    have m0 : (0 : Int) ≤ (m : Int) := by omega
    have m1 : (m : Int) < (N : Int) := by have := HNN.out; omega
    go_enter Tryz.func12, Tryz.ntmps12
    go_wp2_with fail
    refine (impl_FormulaOk _ HR.out hn HKN.out HG.out.ft).mono ?_
    rintro e w1 ⟨rfl, hb⟩
    rw [HO.out]
    have HB : Hid (Below w.heap.size w w1) := hb
    obtain ⟨c0, c1, c2, c3, c4, c5, c6, c7, c8, c9, c10, c11, c12, c13⟩ := HND.out.below hl hb
    have lb : b < w1.heap.size := Nat.lt_of_lt_of_le hl hb.size
    clear hb
    go_wp2_with fail
    refine (HN.out _ KB kb (HR.out.below HB.out) (HG.out.below HB.out) (HK.out.below HB.out)).mono ?_
    rintro e w2 ⟨rfl, hb⟩
    rw [HT.out]
    have HB2 : Hid (Below w.heap.size w w2) := bchain HB.out hb
    clear hb c0 c1 c2 c3 c4 c5 c6 c7 c8 c9 c10 c11 c12 c13
    by_cases h2 : t.size ≤ 200
    · have h2' : ¬ (200 : Int) < (t.size : Int) := by omega
      have HE := HE1.out h2
      have HE' : Hid (t = ftx F N) := HE
      clear HE
      go_wp2_with fail
      go_ret
      exact ⟨ret_str HE'.out, HB2.out⟩
    · have h2' : (200 : Int) < (t.size : Int) := by omega
      have HE' : Hid ((⟨#[]⟩ : ByteArray) = ftx F N) := HE2.out h2
      go_wp2_with fail
      go_ret
      exact ⟨ret_str HE'.out, HB2.out⟩
end Go.Proofs.YtljbnbapmjoecaaGreatDoor
