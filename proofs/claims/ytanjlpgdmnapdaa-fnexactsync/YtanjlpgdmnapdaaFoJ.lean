import Derived.Test.YtanjlpgdmnapdaaFoI
import Derived.Sort.KeysCollected
namespace Go.Proofs.Ytanjlpgdmnapdaa
open Go.RowKit Go.Maps Go.Sort Go.Shelf
set_option linter.unusedSimpArgs false
set_option linter.unusedVariables false

theorem app_step {w W w3 : World} {B n s : Nat} {e : TypeId} {v : Value} {xs : List Value} {o : Obj} (h : W.ownsRow B e s v n xs) (hb : Below B w W) (hB : B ≤ W.heap.size) (hg : (W.alloc o).grownBy w3 v.ownBlock) : Below B w w3 :=
  (hb.alloc hB o).grown hg (by simp; omega) (fun q hq => (h.lt q hq).1)
theorem bb_lt {a b : List UInt8} (h : bytesBefore a b = true) : a ≤ b := by
  rw [← bl_eqL, bytesLess_eq] at h
  have h1 : a < b := of_decide_eq_true h
  exact List.le_of_lt h1
theorem sorted_names {E : List FE} (hU : Up feK E) {ss : List (List UInt8)} (hp : ss.Perm (strKeys (FD E))) : ss.mergeSort (fun x y => decide (x ≤ y)) = E.map feK := by
  have e1 : strKeys (FD E) = E.map feK := by
    show (E.map feD).map (fun p => strOf p.1) = _
    rw [List.map_map]; rfl
  rw [e1] at hp
  have h2 := mergeSort_of_perm hp
  show ss.mergeSort leB = _
  rw [h2]
  apply List.mergeSort_of_pairwise
  rw [List.pairwise_map]
  exact List.Pairwise.imp (fun h => by simpa using bb_lt h) hU
theorem names_str (E : List FE) : (E.map feK).map encStr = E.map (fun x => Value.string x.n) := by
  rw [List.map_map]
  apply List.map_congr_left
  intro x _
  show Value.string ⟨x.n.data.toList.toArray⟩ = _
  simp
theorem fld_list2 (a : Option Addr) (n c : Nat) (z : Int) (w : World) : (Instr.field 118 (.agg #[.slice a n c, .int .i64 z]) 0).run Try.prog w = .ok (.slice a n c) w := by kernel_rfl
theorem join_flat (ps : List ByteArray) : (⟨(Lib.join (ps.map (·.data.toList)) (⟨#[]⟩ : ByteArray).data.toList).toArray⟩ : ByteArray) = joinL ps := by
  unfold joinL Lib.join
  congr 2
  show List.intercalate [] _ = _
  induction ps with
  | nil => rfl
  | cons x r ih =>
    cases r with
    | nil => simp [List.intercalate]
    | cons y t =>
      simp only [List.map_cons, List.intercalate_cons_cons, List.flatten_cons, List.append_nil, List.nil_append] at ih ⊢
      rw [ih]
theorem strings_JoinR {B n : Nat} {v : Value} {ps : List ByteArray} (w : World) (h : w.ownsRow B 9 1 v n (ps.map Value.string)) (hn : ps.length = n) (hN : n ≤ 1099511627776) (hz : sumZ ps ≤ 1099511627776) :
    Calls Try.prog 82 #[v, .string ⟨#[]⟩] w fun e w' => e = .returned (.string (joinL ps)) ∧ Below w.heap.size w w' := by
  subst hn
  have hs := h
  rcases h.2 with ⟨rfl, h0⟩ | ⟨g, cap, cur, rfl, hb, hg, h1, h2, h3, h4⟩
  · obtain rfl : ps = [] := List.eq_nil_of_length_eq_zero h0
    refine (Try.strings_Join_none none 0 ⟨#[]⟩ w).mono ?_
    rintro e w' ⟨rfl, rfl⟩
    exact ⟨rfl, Below.refl _ _⟩
  · refine (Try.strings_Join g 0 cap ps ⟨#[]⟩ w ?_ (Array.getElem?_eq_some_iff.1 hg).1 (by omega) h1 ?_).mono ?_
    · intro j x hx
      have hj : j < ps.length := (List.getElem?_eq_some_iff.1 hx).1
      have := hs.cellAt j (by omega)
      rw [Nat.zero_add, this, List.getElem?_map, hx]
      rfl
    · have e1 := joinL_size ps
      rw [← join_flat] at e1
      have e2 : (Lib.join (ps.map (·.data.toList)) (⟨#[]⟩ : ByteArray).data.toList).length = sumZ ps := by
        rw [← e1]
        exact List.size_toArray.symm
      omega
    · rintro e w' ⟨rfl, hb⟩
      exact ⟨by rw [join_flat], hb⟩

set_option maxRecDepth 100000 in
set_option maxHeartbeats 4000000 in
theorem impl_inOrder {B b m : Nat} {L : List FI} (w : World) (h : FoldL w B b m L) (ht : totL L ≤ 1099511627776) (hm : m < 1073741824) :
    Calls Try.prog 45 #[.map (some b)] w fun e w' => ∃ v, e = .returned v ∧ w'.ownsRow w.heap.size 75 2 v L.length (flat fiL L) ∧ Below w.heap.size w w' := by
  obtain ⟨E, hF, rfl, hps⟩ := h
  have HF : Hid (Fold w B b m E) := hF
  have HP : Hid (∀ x ∈ E, x.ps.length ≤ m) := hps
  have HT : Hid (totL (E.map feI) ≤ 1099511627776) := ht
  obtain ⟨nn, HNN⟩ : ∃ nn, Hid (E.length = nn) := ⟨_, rfl⟩
  have hnn : nn < 1073741824 := by
    have h1 := hF.own.size_le
    rw [FD_size, HNN.out] at h1
    omega
  rw [List.length_map, HNN.out]
  clear hF hps ht
  obtain ⟨i0, hi, iz0, iz1, iz2⟩ := info_parts infoFi
  go_enter Try.func45, Try.ntmps45
  go_wp2_with (first
    | (go_at_call 81; refine (callsIn_wide.1 (mapsKeys _ _)).mono ?_; rintro e w' ⟨rfl, rfl⟩)
    | (go_at_call 80; (refine (callsIn_wide.1 (sortedKeys b m (FD E) pcE w HF.out.own (by rw [FD_size, HNN.out]; unfold maxLen; omega) (by rw [FD_size, HNN.out]; omega))).mono ?_; rintro e w1 ⟨v, ss, rfl, hS, hrow, hnil, hb⟩; rw [sorted_names HF.out.up hS, names_str] at hrow; have hsl : ss.length = nn := (hS.length_eq.trans (by rw [show strKeys (FD E) = (E.map feD).map (fun p => strOf p.1) from rfl]; simpa using HNN.out)); rw [hsl, World.size_alloc] at hrow; have HRW : Hid (w1.ownsRow (w.heap.size + 1) 9 1 v nn (E.map (fun x => Value.string x.n))) := hrow; have HB1 : Hid (Below w.heap.size w w1) := Below.trans (by go_grown) (hb.mono (by simp)); obtain ⟨vA, vc, rfl, x1, x2⟩ := own_shape HRW.out; clear hS hrow hnil hb x1 x2 hsl)))
  go_loopw [3, 10] (fun q i wr => ∃ t : Nat, t ≤ nn ∧ i = .int .i64 t ∧ wr.ownsRow w1.heap.size 75 2 q t (flat fiL ((E.map feI).take t)) ∧ Below w1.heap.size w1 wr) (fun _ i _ => nn - (intOf i).toNat)
  case atStart => exact ⟨0, Nat.zero_le _, rfl, by simpa [flat] using own_nil, Below.refl _ _⟩
  case round =>
    obtain ⟨t, ht, rfl, hown, hbel⟩ := hrel
    have HW : Hid (wr.ownsRow w1.heap.size 75 2 u3 t (flat fiL ((E.map feI).take t))) := hown
    have HB : Hid (Below w1.heap.size w1 wr) := hbel
    clear hown
    by_cases hlt : t < nn
    · obtain ⟨x, hx⟩ := at_lt HNN.out hlt
      have HXT : Hid (E[t]? = some x) := hx
      obtain ⟨A', cap', e, _, hc⟩ := own_shape HRW.out
      cases e
      obtain ⟨g, rfl, _, hgl, c0, _⟩ := hc t (by omega)
      rw [List.getElem?_map, hx] at c0
      have c0 : w1.cell? ⟨g, t, none⟩ = some (.string x.n) := c0
      rw [← hbel.cell (p := ⟨_, _, none⟩) hgl] at c0
      clear hc hx
      have h0 : (0 : Int) ≤ (t : Int) := by omega
      have h1 : (t : Int) < (nn : Int) := by omega
      have HFW : Hid (Fold wr B b m E) := (HF.out.below HB1.out).below HB.out
      have hGX : getK feK x.n.data.toList E = some x := getK_of HF.out.up (List.mem_of_getElem? HXT.out) rfl
      have HV : Hid (foV E x.n.data.toList = x.v) := by show _ = _; rw [foV, hGX]
      have HPS : Hid (foP E x.n.data.toList = x.ps) := by show _ = _; rw [foP, hGX]
      have HR : Hid (wr.ownsRow B 9 1 x.v x.ps.length (x.ps.map Value.string)) := HFW.out.rows x (List.mem_of_getElem? HXT.out)
      have HSX : Hid (x.n.size ≤ maxLen) := HF.out.names x (List.mem_of_getElem? HXT.out)
      have HZX : Hid (sumZ x.ps ≤ 1099511627776) := by
        have h1 := tot_mem (L := E.map feI) (x := feI x) (List.mem_map.2 ⟨x, List.mem_of_getElem? HXT.out, rfl⟩)
        have h2 : (feI x).d.size = sumZ x.ps := joinL_size x.ps
        have h3 := HT.out
        show _ ≤ _
        omega
      have HNX : Hid (x.ps.length ≤ 1099511627776) := by
        have := HP.out x (List.mem_of_getElem? HXT.out)
        show _ ≤ _
        omega
      obtain ⟨zz, HZZ⟩ : ∃ zz : Int, Hid ((sumZ x.ps : Nat) = zz) := ⟨_, rfl⟩
      obtain ⟨pA, pc, hpe, x1, x2⟩ := own_shape HR.out
      have HSN : Hid (flat fiL ((E.map feI).take (t + 1)) = flat fiL ((E.map feI).take t) ++ [.string x.n, .string (joinL x.ps)]) := by
        show _ = _
        rw [List.take_add_one, List.getElem?_map, HXT.out]
        exact flat_snoc fiL _ (feI x)
      clear hGX x1 x2 hbel
      have hfl := fld_list2 pA x.ps.length pc zz
      go_wp2_with (first
        | (at_lookup; refine wpList_lookup_fo _ rfl _ _ rfl b m E rfl HFW.out.own x.n rfl HSX.out ?_; rw [HV.out, HPS.out, HZZ.out, hpe])
        | (go_at_call 82; refine (strings_JoinR _ (by rw [← hpe]; exact HR.out) rfl HNX.out HZX.out).mono ?_; rintro e w2 ⟨rfl, hb⟩; have HW2 : Hid (w2.ownsRow w1.heap.size 75 2 u3 t (flat fiL ((E.map feI).take t))) := own_below HW.out hb; have HB2 : Hid (Below w1.heap.size w1 w2) := bchain HB.out hb; have hs2 : w1.heap.size ≤ w2.heap.size := HB2.out.size; clear hb)
        | (at_builtin; refine wpList_append_own _ rfl _ _ 24 rfl w1.heap.size 75 i0 (.agg #[.string ⟨#[]⟩, .string ⟨#[]⟩]) 2 32 Try.underlying24 hi iz0 iz1 iz2 rfl (by decide) _ _ _ rfl (HW2.out.alloc _) ⟨w2.heap.size, 0, none⟩ 1 1 [.string x.n, .string (joinL x.ps)] rfl rfl ?c1 ?c2 ?c3 ?c4 ?c5 ?_)
        | go_in)
      case c1 =>
        intro q u hq
        match q, hq with
        | 0, hq => simp at hq; subst hq; simp [Addr.add]
        | 1, hq => simp at hq; subst hq; simp [Addr.add]
      case c2 => intro u hu; simp at hu; rcases hu with rfl | rfl <;> rfl
      case c3 => unfold maxLen; omega
      case c4 => omega
      case c5 => simp; omega
      intro v' w3 hown' hgrow _
      have R3 : Hid (Below w1.heap.size w1 w3) := app_step HW2.out HB2.out hs2 hgrow
      have HW3 : Hid (w3.ownsRow w1.heap.size 75 2 v' (t + 1) (flat fiL ((E.map feI).take (t + 1)))) := by
        show World.ownsRow _ _ _ _ _ _ _
        rw [HSN.out]
        exact hown'
      clear hown' hgrow HW2
      go_wp2_with fail
      go_roundw
      case rel => exact ⟨t + 1, by omega, by go_num, HW3.out, R3.out⟩
      case measure => simp [intOf]; omega
    · have h1 : ¬ (t : Int) < (nn : Int) := by omega
      obtain rfl : t = nn := by omega
      have HEQ : Hid ((E.map feI).take t = E.map feI) := by
        show _ = _
        rw [List.take_of_length_le (by rw [List.length_map, HNN.out]; exact Nat.le_refl _)]
      clear hbel
      go_wp2_with fail
      go_ret
      refine ⟨_, rfl, ?_, bchain HB1.out HB.out⟩
      have h2 := HW.out
      rw [HEQ.out] at h2
      exact own_mono h2 HB1.out.size
end Go.Proofs.Ytanjlpgdmnapdaa
