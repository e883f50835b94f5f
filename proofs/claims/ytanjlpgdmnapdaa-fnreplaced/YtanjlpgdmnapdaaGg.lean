import Derived.Test.YtanjlpgdmnapdaaShelf
import Derived.Test.YtanjlpgdmnapdaaGe
import Derived.Shelf.SlIter.Nil
import Derived.Sort.KeysCollected
import Derived.Test.YtanjlpgdmnapdaaGf
namespace Go.Proofs.Ytanjlpgdmnapdaa
open Go.RowKit Go.Maps Go.Sort Go.Shelf
set_option linter.unusedSimpArgs false
set_option linter.unusedVariables false

theorem sorts (m : Nat) : AnyZ.SortsIn Try.prog Try.sorted80_ren Fence.wide m :=
  ⟨fun blk off cap ss W hH hblk hsz => callsIn_wide.2 (AnyM.slices_Sort_string Try.sort96 blk off cap ss W hH hblk hsz),
   fun p cap W => callsIn_wide.2 (AnyM.slices_Sort_string_none Try.sort96 p cap W)⟩

theorem mapsKeys (mb : Option Nat) (W : World) : CallsIn Fence.wide 5 Try.prog 81 #[.map mb] W fun e w' => e = .returned (.func (.func 97) #[] #[.pointer (some ⟨W.heap.size, 0, none⟩)]) ∧ w' = W.alloc (.cells #[.map mb] 71) :=
  AnyZ.keys_in Try.keys81 Fence.wide 5 trivial rfl mb W

set_option maxHeartbeats 1000000 in
theorem sortedKeys {H : Type} (b nn : Nat) (D0 : DataW H) (R : Value → Option (DataW H × List MemPlace)) (w : World) (hown : w.ownsMap Try.prog 9 R b nn D0) (hmax : Maps.size D0 ≤ maxLen) (hbytes : Maps.size D0 * 16 ≤ 140737488355328) :
    CallsIn Fence.wide 5 Try.prog 80 #[.func (.func 97) #[] #[.pointer (some ⟨w.heap.size, 0, none⟩)]] (w.alloc (.cells #[.map (some b)] 71)) fun e w' => ∃ (v : Value) (ss : List (List UInt8)), e = .returned v ∧ ss.Perm (strKeys D0) ∧
      w'.ownsRow (w.alloc (.cells #[.map (some b)] 71)).heap.size 9 1 v ss.length ((ss.mergeSort (fun x y => decide (x ≤ y))).map encStr) ∧ (v = .slice none 0 0 ↔ ss = []) ∧ Below (w.alloc (.cells #[.map (some b)] 71)).heap.size (w.alloc (.cells #[.map (some b)] 71)) w' := by
  have hbl := hown.lt
  have hseq : SeqGives Fence.wide 2 Try.prog 97 #[.pointer (some ⟨w.heap.size, 0, none⟩)] encStr (fun ss => ss.Perm (strKeys D0)) (Maps.size D0) (w.alloc (.cells #[.map (some b)] 71)) :=
    AnyZ.keys_gives (ρ := Try.keys81_ren) { Try.keys81 with } Fence.wide _ trivial rfl (by omega) w.heap.size b nn D0 _ (by simp) (by simp) (by
      obtain ⟨es, clock, hb, Ft, hs, hD⟩ := hown
      exact ⟨es, clock, (Below.heap_alloc _ _ b hbl).trans hb, Ft, hs, hD⟩)
  exact AnyZ.sorted_in Try.sorted80 Fence.wide 5 trivial trivial trivial trivial rfl (by omega) (sorts _) (enters_of Try.func96 (by kernel_rfl) rfl) 97 #[.pointer (some ⟨w.heap.size, 0, none⟩)] trivial (enters_of Try.func97 (by kernel_rfl) rfl) _ _ hmax hbytes _ hseq

set_option maxHeartbeats 1000000 in
theorem sortedNil (w : World) :
    CallsIn Fence.wide 5 Try.prog 80 #[.func (.func 97) #[] #[.pointer (some ⟨w.heap.size, 0, none⟩)]] (w.alloc (.cells #[.map none] 71)) fun e w' => ∃ (v : Value) (ss : List (List UInt8)), e = .returned v ∧ ss = [] ∧
      w'.ownsRow (w.alloc (.cells #[.map none] 71)).heap.size 9 1 v ss.length ((ss.mergeSort (fun x y => decide (x ≤ y))).map encStr) ∧ (v = .slice none 0 0 ↔ ss = []) ∧ Below (w.alloc (.cells #[.map none] 71)).heap.size (w.alloc (.cells #[.map none] 71)) w' := by
  have hseq : SeqGives Fence.wide 2 Try.prog 97 #[.pointer (some ⟨w.heap.size, 0, none⟩)] encStr (fun ss : List (List UInt8) => ss = []) 0 (w.alloc (.cells #[.map none] 71)) :=
    AnyZ.keys_gives_nil (ρ := Try.keys81_ren) { Try.keys81 with } Fence.wide _ trivial rfl w.heap.size _ (by simp) (by simp)
  exact AnyZ.sorted_in Try.sorted80 Fence.wide 5 trivial trivial trivial trivial rfl (by omega) (sorts _) (enters_of Try.func96 (by kernel_rfl) rfl) 97 #[.pointer (some ⟨w.heap.size, 0, none⟩)] trivial (enters_of Try.func97 (by kernel_rfl) rfl) _ 0 (Nat.zero_le _) (by omega) _ hseq
end Go.Proofs.Ytanjlpgdmnapdaa
namespace Go.Proofs.Ytanjlpgdmnapdaa
open Go.RowKit Go.Maps Go.Sort Go.Shelf
set_option linter.unusedSimpArgs false
set_option linter.unusedVariables false

theorem app_step {w W w3 : World} {B n s : Nat} {e : TypeId} {v : Value} {xs : List Value} {o : Obj} (h : W.ownsRow B e s v n xs) (hb : Below B w W) (hB : B ≤ W.heap.size) (hg : (W.alloc o).grownBy w3 v.ownBlock) : Below B w w3 :=
  (hb.alloc hB o).grown hg (by simp; omega) (fun q hq => (h.lt q hq).1)
theorem bb_lt {a b : List UInt8} (h : bytesBefore a b = true) : a ≤ b := by
  rw [← bl_eqL, bytesLess_eq] at h
  have h1 : a < b := of_decide_eq_true h
  exact List.le_of_lt h1
theorem sorted_names {E : List FE} (hU : Up feK E) {ss : List (List UInt8)} (hp : ss.Perm (strKeys (FD E))) : ss.mergeSort (fun x y => decide (x ≤ y)) = E.map feK := by
  have e1 : strKeys (FD E) = E.map feK := by
    show (E.map feD).map (fun p => strOf p.1) = _
    rw [List.map_map]; rfl
  rw [e1] at hp
  have h2 := mergeSort_of_perm hp
  show ss.mergeSort leB = _
  rw [h2]
  apply List.mergeSort_of_pairwise
  rw [List.pairwise_map]
  exact List.Pairwise.imp (fun h => by simpa using bb_lt h) hU
theorem names_str (E : List FE) : (E.map feK).map encStr = E.map (fun x => Value.string x.n) := by
  rw [List.map_map]
  apply List.map_congr_left
  intro x _
  show Value.string ⟨x.n.data.toList.toArray⟩ = _
  simp
theorem fld_list2 (a : Option Addr) (n c : Nat) (z : Int) (w : World) : (Instr.field 118 (.agg #[.slice a n c, .int .i64 z]) 0).run Try.prog w = .ok (.slice a n c) w := by kernel_rfl
theorem join_flat (ps : List ByteArray) : (⟨(Lib.join (ps.map (·.data.toList)) (⟨#[]⟩ : ByteArray).data.toList).toArray⟩ : ByteArray) = joinL ps := by
  unfold joinL Lib.join
  congr 2
  show List.intercalate [] _ = _
  induction ps with
  | nil => rfl
  | cons x r ih =>
    cases r with
    | nil => simp [List.intercalate]
    | cons y t =>
      simp only [List.map_cons, List.intercalate_cons_cons, List.flatten_cons, List.append_nil, List.nil_append] at ih ⊢
      rw [ih]
theorem strings_JoinR {B n : Nat} {v : Value} {ps : List ByteArray} (w : World) (h : w.ownsRow B 9 1 v n (ps.map Value.string)) (hn : ps.length = n) (hN : n ≤ 1099511627776) (hz : sumZ ps ≤ 1099511627776) :
    Calls Try.prog 82 #[v, .string ⟨#[]⟩] w fun e w' => e = .returned (.string (joinL ps)) ∧ Below w.heap.size w w' := by
  subst hn
  have hs := h
  rcases h.2 with ⟨rfl, h0⟩ | ⟨g, cap, cur, rfl, hb, hg, h1, h2, h3, h4⟩
  · obtain rfl : ps = [] := List.eq_nil_of_length_eq_zero h0
    refine (Try.strings_Join_none none 0 ⟨#[]⟩ w).mono ?_
    rintro e w' ⟨rfl, rfl⟩
    exact ⟨rfl, Below.refl _ _⟩
  · refine (Try.strings_Join g 0 cap ps ⟨#[]⟩ w ?_ (Array.getElem?_eq_some_iff.1 hg).1 (by omega) h1 ?_).mono ?_
    · intro j x hx
      have hj : j < ps.length := (List.getElem?_eq_some_iff.1 hx).1
      have := hs.cellAt j (by omega)
      rw [Nat.zero_add, this, List.getElem?_map, hx]
      rfl
    · have e1 := joinL_size ps
      rw [← join_flat] at e1
      have e2 : (Lib.join (ps.map (·.data.toList)) (⟨#[]⟩ : ByteArray).data.toList).length = sumZ ps := by
        rw [← e1]
        exact List.size_toArray.symm
      omega
    · rintro e w' ⟨rfl, hb⟩
      exact ⟨by rw [join_flat], hb⟩

set_option maxRecDepth 100000 in
set_option maxHeartbeats 4000000 in
theorem impl_inOrder {B b m : Nat} {L : List FI} (w : World) (h : FoldL w B b m L) (ht : totL L ≤ 1099511627776) (hm : m < 1073741824) :
    Calls Try.prog 45 #[.map (some b)] w fun e w' => ∃ v, e = .returned v ∧ w'.ownsRow w.heap.size 75 2 v L.length (flat fiL L) ∧ Below w.heap.size w w' := by
  obtain ⟨E, hF, rfl, hps⟩ := h
  have HF : Hid (Fold w B b m E) := hF
  have HP : Hid (∀ x ∈ E, x.ps.length ≤ m) := hps
  have HT : Hid (totL (E.map feI) ≤ 1099511627776) := ht
  obtain ⟨nn, HNN⟩ : ∃ nn, Hid (E.length = nn) := ⟨_, rfl⟩
  have hnn : nn < 1073741824 := by
    have h1 := hF.own.size_le
    rw [FD_size, HNN.out] at h1
    omega
  rw [List.length_map, HNN.out]
  clear hF hps ht
  obtain ⟨i0, hi, iz0, iz1, iz2⟩ := info_parts infoFi
  go_enter Try.func45, Try.ntmps45
  go_wp2_with (first
    | (go_at_call 81; refine (callsIn_wide.1 (mapsKeys _ _)).mono ?_; rintro e w' ⟨rfl, rfl⟩)
    | (go_at_call 80; (refine (callsIn_wide.1 (sortedKeys b m (FD E) pcE w HF.out.own (by rw [FD_size, HNN.out]; unfold maxLen; omega) (by rw [FD_size, HNN.out]; omega))).mono ?_; rintro e w1 ⟨v, ss, rfl, hS, hrow, hnil, hb⟩; rw [sorted_names HF.out.up hS, names_str] at hrow; have hsl : ss.length = nn := (hS.length_eq.trans (by rw [show strKeys (FD E) = (E.map feD).map (fun p => strOf p.1) from rfl]; simpa using HNN.out)); rw [hsl, World.size_alloc] at hrow; have HRW : Hid (w1.ownsRow (w.heap.size + 1) 9 1 v nn (E.map (fun x => Value.string x.n))) := hrow; have HB1 : Hid (Below w.heap.size w w1) := Below.trans (by go_grown) (hb.mono (by simp)); obtain ⟨vA, vc, rfl, x1, x2⟩ := own_shape HRW.out; clear hS hrow hnil hb x1 x2 hsl)))
  go_loopw [3, 10] (fun q i wr => ∃ t : Nat, t ≤ nn ∧ i = .int .i64 t ∧ wr.ownsRow w1.heap.size 75 2 q t (flat fiL ((E.map feI).take t)) ∧ Below w1.heap.size w1 wr) (fun _ i _ => nn - (intOf i).toNat)
  case atStart => exact ⟨0, Nat.zero_le _, rfl, by simpa [flat] using own_nil, Below.refl _ _⟩
  case round =>
    obtain ⟨t, ht, rfl, hown, hbel⟩ := hrel
    have HW : Hid (wr.ownsRow w1.heap.size 75 2 u3 t (flat fiL ((E.map feI).take t))) := hown
    have HB : Hid (Below w1.heap.size w1 wr) := hbel
    clear hown
    by_cases hlt : t < nn
    · obtain ⟨x, hx⟩ := at_lt HNN.out hlt
      have HXT : Hid (E[t]? = some x) := hx
      obtain ⟨A', cap', e, _, hc⟩ := own_shape HRW.out
      cases e
      obtain ⟨g, rfl, _, hgl, c0, _⟩ := hc t (by omega)
      rw [List.getElem?_map, hx] at c0
      have c0 : w1.cell? ⟨g, t, none⟩ = some (.string x.n) := c0
      rw [← hbel.cell (p := ⟨_, _, none⟩) hgl] at c0
      clear hc hx
      have h0 : (0 : Int) ≤ (t : Int) := by omega
      have h1 : (t : Int) < (nn : Int) := by omega
      have HFW : Hid (Fold wr B b m E) := (HF.out.below HB1.out).below HB.out
      have hGX : getK feK x.n.data.toList E = some x := getK_of HF.out.up (List.mem_of_getElem? HXT.out) rfl
      have HV : Hid (foV E x.n.data.toList = x.v) := by show _ = _; rw [foV, hGX]
      have HPS : Hid (foP E x.n.data.toList = x.ps) := by show _ = _; rw [foP, hGX]
      have HR : Hid (wr.ownsRow B 9 1 x.v x.ps.length (x.ps.map Value.string)) := HFW.out.rows x (List.mem_of_getElem? HXT.out)
      have HSX : Hid (x.n.size ≤ maxLen) := HF.out.names x (List.mem_of_getElem? HXT.out)
      have HZX : Hid (sumZ x.ps ≤ 1099511627776) := by
        have h1 := tot_mem (L := E.map feI) (x := feI x) (List.mem_map.2 ⟨x, List.mem_of_getElem? HXT.out, rfl⟩)
        have h2 : (feI x).d.size = sumZ x.ps := joinL_size x.ps
        have h3 := HT.out
        show _ ≤ _
        omega
      have HNX : Hid (x.ps.length ≤ 1099511627776) := by
        have := HP.out x (List.mem_of_getElem? HXT.out)
        show _ ≤ _
        omega
      obtain ⟨zz, HZZ⟩ : ∃ zz : Int, Hid ((sumZ x.ps : Nat) = zz) := ⟨_, rfl⟩
      obtain ⟨pA, pc, hpe, x1, x2⟩ := own_shape HR.out
      have HSN : Hid (flat fiL ((E.map feI).take (t + 1)) = flat fiL ((E.map feI).take t) ++ [.string x.n, .string (joinL x.ps)]) := by
        show _ = _
        rw [List.take_add_one, List.getElem?_map, HXT.out]
        exact flat_snoc fiL _ (feI x)
      clear hGX x1 x2 hbel
      have hfl := fld_list2 pA x.ps.length pc zz
      go_wp2_with (first
        | (at_lookup; refine wpList_lookup_fo _ rfl _ _ rfl b m E rfl HFW.out.own x.n rfl HSX.out ?_; rw [HV.out, HPS.out, HZZ.out, hpe])
        | (go_at_call 82; refine (strings_JoinR _ (by rw [← hpe]; exact HR.out) rfl HNX.out HZX.out).mono ?_; rintro e w2 ⟨rfl, hb⟩; have HW2 : Hid (w2.ownsRow w1.heap.size 75 2 u3 t (flat fiL ((E.map feI).take t))) := own_below HW.out hb; have HB2 : Hid (Below w1.heap.size w1 w2) := bchain HB.out hb; have hs2 : w1.heap.size ≤ w2.heap.size := HB2.out.size; clear hb)
        | (at_builtin; refine wpList_append_own _ rfl _ _ 24 rfl w1.heap.size 75 i0 (.agg #[.string ⟨#[]⟩, .string ⟨#[]⟩]) 2 32 Try.underlying24 hi iz0 iz1 iz2 rfl (by decide) _ _ _ rfl (HW2.out.alloc _) ⟨w2.heap.size, 0, none⟩ 1 1 [.string x.n, .string (joinL x.ps)] rfl rfl ?c1 ?c2 ?c3 ?c4 ?c5 ?_)
        | go_in)
      case c1 =>
        intro q u hq
        match q, hq with
        | 0, hq => simp at hq; subst hq; simp [Addr.add]
        | 1, hq => simp at hq; subst hq; simp [Addr.add]
      case c2 => intro u hu; simp at hu; rcases hu with rfl | rfl <;> rfl
      case c3 => unfold maxLen; omega
      case c4 => omega
      case c5 => simp; omega
      intro v' w3 hown' hgrow _
      have R3 : Hid (Below w1.heap.size w1 w3) := app_step HW2.out HB2.out hs2 hgrow
      have HW3 : Hid (w3.ownsRow w1.heap.size 75 2 v' (t + 1) (flat fiL ((E.map feI).take (t + 1)))) := by
        show World.ownsRow _ _ _ _ _ _ _
        rw [HSN.out]
        exact hown'
      clear hown' hgrow HW2
      go_wp2_with fail
      go_roundw
      case rel => exact ⟨t + 1, by omega, by go_num, HW3.out, R3.out⟩
      case measure => simp [intOf]; omega
    · have h1 : ¬ (t : Int) < (nn : Int) := by omega
      obtain rfl : t = nn := by omega
      have HEQ : Hid ((E.map feI).take t = E.map feI) := by
        show _ = _
        rw [List.take_of_length_le (by rw [List.length_map, HNN.out]; exact Nat.le_refl _)]
      clear hbel
      go_wp2_with fail
      go_ret
      refine ⟨_, rfl, ?_, bchain HB1.out HB.out⟩
      have h2 := HW.out
      rw [HEQ.out] at h2
      exact own_mono h2 HB1.out.size
end Go.Proofs.Ytanjlpgdmnapdaa
namespace Go.Proofs.Ytanjlpgdmnapdaa
open Go.RowKit Go.Maps
set_option linter.unusedSimpArgs false
set_option linter.unusedVariables false

def fiEq (x y : FI) : Bool := (x.n.toList == y.n.toList) && (x.d.toList == y.d.toList)
theorem fiEq_iff {x y : FI} : fiEq x y = true ↔ x = y := by
  constructor
  · intro h
    simp only [fiEq, Bool.and_eq_true] at h
    have h1 := str_of h.1
    have h2 := str_of h.2
    cases x; cases y
    simp only at h1 h2
    rw [h1, h2]
  · rintro rfl
    simp [fiEq]
def sameB : List FI → List FI → Bool
  | [], [] => true
  | x :: a, y :: b => fiEq x y && sameB a b
  | _, _ => false
theorem sameB_iff : ∀ {a b : List FI}, sameB a b = true ↔ a = b
  | [], [] => by simp [sameB]
  | [], _ :: _ => by simp [sameB]
  | _ :: _, [] => by simp [sameB]
  | x :: a, y :: b => by
    have ih := sameB_iff (a := a) (b := b)
    simp only [sameB, Bool.and_eq_true, fiEq_iff, ih, List.cons.injEq]
theorem sameB_len {a b : List FI} (h : a.length ≠ b.length) : sameB a b = false := by
  cases e : sameB a b
  · rfl
  · exact absurd (congrArg List.length (sameB_iff.1 e)) h
theorem sameB_no {a b : List FI} {i : Nat} {x y : FI} (hx : a[i]? = some x) (hy : b[i]? = some y) (h : fiEq x y = false) : sameB a b = false := by
  cases e : sameB a b
  · rfl
  · have h1 := sameB_iff.1 e
    subst h1
    rw [hx] at hy
    cases hy
    rw [fiEq_iff.2 rfl] at h
    cases h
theorem sameB_yes {a b : List FI} (hl : a.length = b.length) (h : ∀ (i : Nat) (x y : FI), a[i]? = some x → b[i]? = some y → x = y) : sameB a b = true := by
  apply sameB_iff.2
  apply List.ext_getElem?
  intro i
  by_cases hi : i < a.length
  · rw [List.getElem?_eq_getElem hi, List.getElem?_eq_getElem (hl ▸ hi)]
    rw [h i _ _ (List.getElem?_eq_getElem hi) (List.getElem?_eq_getElem (hl ▸ hi))]
  · rw [List.getElem?_eq_none (by omega), List.getElem?_eq_none (by omega)]
set_option maxRecDepth 100000 in
set_option maxHeartbeats 2000000 in
theorem slices_EqualF {A A' : Option Addr} {n n' cap cap' : Nat} {L L' : List FI} (w : World) (h : FiRow w A L) (h' : FiRow w A' L') (hL : L.length = n) (hL' : L'.length = n') :
    Calls Try.prog 44 #[.slice A n cap, .slice A' n' cap'] w fun e w' => e = .returned (.bool (sameB L L')) ∧ Below w.heap.size w w' := by
  have HR : Hid (FiRow w A L) := h
  have HR' : Hid (FiRow w A' L') := h'
  have HL : Hid (L.length = n) := hL
  have HL' : Hid (L'.length = n') := hL'
  have hn := h.1
  have hn' := h'.1
  rw [hL] at hn
  rw [hL'] at hn'
  unfold maxLen at hn hn'
  clear h h' hL hL'
  by_cases hne : n = n'
  · subst hne
    go_enter Try.func44, Try.ntmps44
    go_wp2_with fail
    go_loopw [13] (fun i wr => ∃ t : Nat, t ≤ n ∧ i = .int .i64 t ∧ (∀ j x y, j < t → L[j]? = some x → L'[j]? = some y → x = y) ∧ Below w.heap.size w wr) (fun i _ => n - (intOf i).toNat)
    case atStart => exact ⟨0, Nat.zero_le _, rfl, fun j x y hj => by omega, Below.refl _ _⟩
    case round =>
      obtain ⟨t, ht, rfl, hall, hbel⟩ := hrel
      have HA : Hid (∀ j x y, j < t → L[j]? = some x → L'[j]? = some y → x = y) := hall
      clear hall
      by_cases hlt : t < n
      · obtain ⟨x, hx⟩ := at_lt HL.out hlt
        obtain ⟨y, hy⟩ := at_lt HL'.out hlt
        have HX : Hid (L[t]? = some x) := hx
        have HY : Hid (L'[t]? = some y) := hy
        obtain ⟨b, o, rfl, hl, hc⟩ := HR.out.2 t x hx
        have c0 : w.cell? ⟨b, o + t * 2, none⟩ = some (.string x.n) := hc 0 _ rfl
        have c1 : w.cell? ⟨b, o + t * 2 + 1, none⟩ = some (.string x.d) := hc 1 _ rfl
        obtain ⟨b', o', rfl, hl', hc'⟩ := HR'.out.2 t y hy
        have d0 : w.cell? ⟨b', o' + t * 2, none⟩ = some (.string y.n) := hc' 0 _ rfl
        have d1 : w.cell? ⟨b', o' + t * 2 + 1, none⟩ = some (.string y.d) := hc' 1 _ rfl
        clear hc hc' hx hy
        rw [← hbel.cell (p := ⟨_, _, none⟩) hl] at c0 c1
        rw [← hbel.cell (p := ⟨_, _, none⟩) hl'] at d0 d1
        have q0 : (0 : Int) ≤ (t : Int) := by omega
        have q1 : (t : Int) < (n : Int) := by omega
        obtain ⟨bb, HBB⟩ : ∃ bb, Hid (fiEq x y = bb) := ⟨_, rfl⟩
        cases e1 : (x.n.toList == y.n.toList) <;> cases e2 : (x.d.toList == y.d.toList)
        all_goals
          go_wp2_with fail
          go_quiet (fail)
          go_wp2_with fail
        · go_ret
          exact ⟨ret_bool (sameB_no HX.out HY.out (by rw [fiEq, e1, e2]; rfl)).symm, below_drewN hbel _⟩
        · go_ret
          exact ⟨ret_bool (sameB_no HX.out HY.out (by rw [fiEq, e1, e2]; rfl)).symm, below_drewN hbel _⟩
        · go_ret
          exact ⟨ret_bool (sameB_no HX.out HY.out (by rw [fiEq, e1, e2]; rfl)).symm, below_drewN hbel _⟩
        · go_roundw
          case rel => exact ⟨t + 1, by omega, by go_num, fun j u v hj hu hv => by
            by_cases e : j = t
            · subst e; rw [HX.out] at hu; rw [HY.out] at hv; cases hu; cases hv; exact fiEq_iff.1 (by rw [fiEq, e1, e2]; rfl)
            · exact HA.out j u v (by omega) hu hv, below_drewN hbel _⟩
          case measure => simp [intOf]; omega
      · have h1 : ¬ (t : Int) < (n : Int) := by omega
        obtain rfl : t = n := by omega
        go_wp2_with fail
        go_ret
        exact ⟨ret_bool (sameB_yes (HL.out.trans HL'.out.symm) (fun i x y hx hy => HA.out i x y (by have := (List.getElem?_eq_some_iff.1 hx).1; have := HL.out; omega) hx hy)).symm, hbel⟩
  · have hne2 : ¬ (n : Int) = (n' : Int) := by omega
    have hne3 : ((n : Int) == (n' : Int)) = false := by simpa using hne2
    go_enter Try.func44, Try.ntmps44
    go_wp2_with fail
    go_ret
    exact ⟨ret_bool (sameB_len (by rw [HL.out, HL'.out]; exact hne)).symm, by go_grown⟩
end Go.Proofs.Ytanjlpgdmnapdaa
namespace Go.Proofs.Ytanjlpgdmnapdaa
open Go.RowKit Go.Maps
set_option linter.unusedSimpArgs false
set_option linter.unusedVariables false

/-- A disk. -/
structure DK where
  live : List FI
  safe : List FI
  ops : List DP
/-- The ops one by one: none where one is refused. -/
def runO : List DP → List FI → Option (List FI)
  | [], L => some L
  | x :: r, L => if doC x L = 0 then runO r (doL x L) else none
def diskB (d : DK) : Bool := filesB d.live && (filesB d.safe && (decide (d.ops.length ≤ 200) && (match runO d.ops d.safe with | some L => sameB L d.live | none => false)))
theorem bool_true {b : Bool} (h : ¬ b = false) : b = true := by cases b <;> simp_all
theorem doC_zero {x : DP} {L : List FI} (h : doC x L = 0) : formB x = true ∧ findB x L = true ∧ fitB (doL x L) = true := by
  unfold doC at h
  split at h
  · cases h
  · split at h
    · cases h
    · split at h
      · cases h
      · rename_i h1 h2 h3
        exact ⟨bool_true h1, bool_true h2, bool_true h3⟩
theorem doG_of {x : DP} {L : List FI} (h : doC x L = 0) : doG x L = doL x L := by
  have := doC_zero h
  rw [doG, if_pos ⟨this.1, this.2.1⟩]
theorem runO_take {ops : List DP} {S L : List FI} {t : Nat} {x : DP} (h : runO (ops.take t) S = some L) (hx : ops[t]? = some x) (h0 : doC x L = 0) : runO (ops.take (t + 1)) S = some (doL x L) := by
  rw [List.take_add_one, hx]
  have key : ∀ (a : List DP) (S : List FI), runO a S = some L → runO (a ++ [x]) S = some (doL x L) := by
    intro a
    induction a with
    | nil => intro S hS; cases hS; simp [runO, h0]
    | cons y r ih =>
      intro S hS
      simp only [runO, List.cons_append] at hS ⊢
      split at hS
      · rename_i hy
        rw [if_pos hy]; exact ih _ hS
      · cases hS
  exact key _ _ h
theorem runO_stop {ops : List DP} {S L : List FI} {t : Nat} {x : DP} (h : runO (ops.take t) S = some L) (hx : ops[t]? = some x) (h0 : doC x L ≠ 0) : runO ops S = none := by
  have e : ops = ops.take t ++ x :: ops.drop (t + 1) := by
    have ht : t < ops.length := (List.getElem?_eq_some_iff.1 hx).1
    conv => lhs; rw [← List.take_append_drop t ops, List.drop_eq_getElem_cons ht]
    rw [(List.getElem?_eq_some_iff.1 hx).2]
  rw [e]
  have key : ∀ (a : List DP) (S : List FI), runO a S = some L → ∀ r, runO (a ++ x :: r) S = none := by
    intro a
    induction a with
    | nil => intro S hS r; cases hS; simp [runO, h0]
    | cons y q ih =>
      intro S hS r
      simp only [runO, List.cons_append] at hS ⊢
      split at hS
      · rename_i hy
        rw [if_pos hy]; exact ih _ hS r
      · cases hS
  exact key _ _ h _
theorem run_tot {ops : List DP} {S L : List FI} : ∀ {t : Nat}, runO (ops.take t) S = some L → filesB S = true → totL L ≤ 200000 := by
  have key : ∀ (a : List DP) (S : List FI), totL S ≤ 200000 → runO a S = some L → totL L ≤ 200000 := by
    intro a
    induction a with
    | nil => intro S h hS; cases hS; exact h
    | cons y q ih =>
      intro S h hS
      simp only [runO] at hS
      split at hS
      · rename_i hy
        have h1 := (doC_zero hy).2.2
        simp only [fitB, Bool.and_eq_true, decide_eq_true_eq] at h1
        exact ih _ h1.2 hS
      · cases hS
  intro t h hf
  simp only [filesB, Bool.and_eq_true, decide_eq_true_eq] at hf
  exact key _ _ hf.2.2.2 h

/-- A disk in memory. -/
def DkRow (w : World) (v : Value) (d : DK) : Prop :=
  ∃ A1 c1 A2 c2 A3 c3, v = .agg #[.slice A1 d.live.length c1, .slice A2 d.safe.length c2, .slice A3 d.ops.length c3] ∧ FiRow w A1 d.live ∧ FiRow w A2 d.safe ∧ DpRow w A3 d.ops ∧ (A1 = none → c1 = 0) ∧ (A2 = none → c2 = 0) ∧ (A3 = none → c3 = 0)
theorem DkRow.below {w w' : World} {v : Value} {d : DK} (h : DkRow w v d) (hb : Below w.heap.size w w') : DkRow w' v d := by
  obtain ⟨A1, c1, A2, c2, A3, c3, e, h1, h2, h3, z⟩ := h
  exact ⟨A1, c1, A2, c2, A3, c3, e, h1.below hb, h2.below hb, h3.below hb, z⟩
/-- All texts short, all rows short. -/
structure DkLil (d : DK) : Prop where
  l1 : ∀ x ∈ d.live, fiLil x
  l2 : ∀ x ∈ d.safe, fiLil x
  l3 : ∀ x ∈ d.ops, dpLil x
  n1 : d.live.length ≤ 1048576
  n2 : d.safe.length ≤ 1048576
  n3 : d.ops.length ≤ 1048576

set_option maxRecDepth 100000 in
set_option maxHeartbeats 4000000 in
theorem impl_DiskOk {v : Value} {d : DK} (w : World) (h : DkRow w v d) (hl : DkLil d) :
    Calls Try.prog 14 #[v] w fun e w' => e = .returned (.bool (diskB d)) ∧ Below w.heap.size w w' := by
  obtain ⟨A1, c1, A2, c2, A3, c3, rfl, h1, h2, h3, z0⟩ := h
  clear z0
  have HR1 : Hid (FiRow w A1 d.live) := h1
  have HR2 : Hid (FiRow w A2 d.safe) := h2
  have HR3 : Hid (DpRow w A3 d.ops) := h3
  have HL : Hid (DkLil d) := hl
  obtain ⟨n1, HN1⟩ : ∃ n1, Hid (d.live.length = n1) := ⟨_, rfl⟩
  obtain ⟨n2, HN2⟩ : ∃ n2, Hid (d.safe.length = n2) := ⟨_, rfl⟩
  obtain ⟨n3, HN3⟩ : ∃ n3, Hid (d.ops.length = n3) := ⟨_, rfl⟩
  have hn1 : n1 ≤ 1048576 := by rw [← HN1.out]; exact hl.n1
  have hn2 : n2 ≤ 1048576 := by rw [← HN2.out]; exact hl.n2
  have hn3 : n3 ≤ 1048576 := by rw [← HN3.out]; exact hl.n3
  rw [HN1.out, HN2.out, HN3.out]
  clear h1 h2 h3 hl
  obtain ⟨f1, HF1⟩ : ∃ f1, Hid (filesB d.live = f1) := ⟨_, rfl⟩
  obtain ⟨f2, HF2⟩ : ∃ f2, Hid (filesB d.safe = f2) := ⟨_, rfl⟩
  cases f1
  · have HE : Hid (diskB d = false) := by show _ = _; rw [diskB, HF1.out]; rfl
    rw [HE.out]
    go_enter Try.func14, Try.ntmps14
    go_wp2_with (first
      | (go_at_call 41; refine (impl_filesOk _ (HR1.out.below (by go_grown)) HN1.out hn1 HL.out.l1).mono ?_; rintro e w1 ⟨rfl, hb⟩; rw [HF1.out]; have HB1 : Hid (Below w.heap.size w w1) := (Below.trans (by go_grown) (hb.mono (by simp))); clear hb))
    go_ret
    exact ⟨rfl, HB1.out⟩
  cases f2
  · have HE : Hid (diskB d = false) := by show _ = _; rw [diskB, HF1.out, HF2.out]; rfl
    rw [HE.out]
    go_enter Try.func14, Try.ntmps14
    go_wp2_with fail
    refine (impl_filesOk _ (HR1.out.below (by go_grown)) HN1.out hn1 HL.out.l1).mono ?_
    rintro e w1 ⟨rfl, hb⟩
    rw [HF1.out]
    obtain ⟨hc, hf, hC, hF, hz, hk, l0⟩ := bk1 (w := w) (by go_grown) (by go_size) hb
    have HB1 : Hid (Below w.heap.size w w1) := hk
    clear hb hk
    go_wp2_with fail
    refine (impl_filesOk _ (HR2.out.below HB1.out) HN2.out hn2 HL.out.l2).mono ?_
    rintro e w2 ⟨rfl, hb⟩
    rw [HF2.out]
    have HB2 : Hid (Below w.heap.size w w2) := bchain HB1.out hb
    clear hb
    go_wp2_with fail
    go_ret
    exact ⟨rfl, HB2.out⟩
  by_cases h200 : (200 : Int) < (n3 : Int)
  · have HE : Hid (diskB d = false) := by show _ = _; rw [diskB, HF1.out, HF2.out, decide_eq_false (by rw [HN3.out]; omega)]; rfl
    rw [HE.out]
    go_enter Try.func14, Try.ntmps14
    go_wp2_with fail
    refine (impl_filesOk _ (HR1.out.below (by go_grown)) HN1.out hn1 HL.out.l1).mono ?_
    rintro e w1 ⟨rfl, hb⟩
    rw [HF1.out]
    obtain ⟨hc, hf, hC, hF, hz, hk, l0⟩ := bk1 (w := w) (by go_grown) (by go_size) hb
    have HB1 : Hid (Below w.heap.size w w1) := hk
    clear hb hk
    go_wp2_with fail
    refine (impl_filesOk _ (HR2.out.below HB1.out) HN2.out hn2 HL.out.l2).mono ?_
    rintro e w2 ⟨rfl, hb⟩
    rw [HF2.out]
    obtain ⟨hc2, hf2, hC2, hF2, hz2, hk2, l02⟩ := bk1 (w := w) HB1.out (by omega) hb
    have HB2 : Hid (Below w.heap.size w w2) := hk2
    clear hb hk2
    go_wp2_with fail
    go_ret
    exact ⟨rfl, HB2.out⟩
  have HE : Hid (diskB d = (match runO d.ops d.safe with | some L => sameB L d.live | none => false)) := by
    show _ = _
    rw [diskB, HF1.out, HF2.out, decide_eq_true (by rw [HN3.out]; omega)]; rfl
  go_enter Try.func14, Try.ntmps14
  go_wp2_with fail
  refine (impl_filesOk _ (HR1.out.below (by go_grown)) HN1.out hn1 HL.out.l1).mono ?_
  rintro e w1 ⟨rfl, hb⟩
  rw [HF1.out]
  have k0 := cy hb (b := w.heap.size) (o := 0) (x := .slice A1 n1 c1) (by simp)
  have k1 := cy hb (b := w.heap.size) (o := 1) (x := .slice A2 n2 c2) (by simp)
  have k2 := cy hb (b := w.heap.size) (o := 2) (x := .slice A3 n3 c3) (by simp)
  have HB1 : Hid (Below w.heap.size w w1) := Below.trans (by go_grown) (hb.mono (by simp))
  clear hb
  go_wp2_with fail
  refine (impl_filesOk _ (HR2.out.below HB1.out) HN2.out hn2 HL.out.l2).mono ?_
  rintro e w2 ⟨rfl, hb⟩
  rw [HF2.out]
  replace k0 := cy hb k0
  replace k1 := cy hb k1
  replace k2 := cy hb k2
  have HB2 : Hid (Below w.heap.size w w2) := bchain HB1.out hb
  clear hb
  go_wp2_with fail
  refine (impl_folderOf _ (HR2.out.below HB2.out) HN2.out (filesB_up HF2.out) (by omega) (fun x hx => fiOk_of (HL.out.l2 x hx)) ?_).mono ?_
  · have := tot_lil HL.out.l2
    rw [HN2.out] at this
    omega
  rintro e w3 ⟨rfl, hF, hb⟩
  have HS2 : Hid (w.heap.size < w2.heap.size) := World.block_lt_of_cell? w2 ⟨w.heap.size, 0, none⟩ k0
  replace k0 := cy hb k0
  replace k1 := cy hb k1
  replace k2 := cy hb k2
  have HK : Hid (w3.cell? ⟨w.heap.size, 0, none⟩ = some (.slice A1 n1 c1)) := k0
  have HF3 : Hid (FoldL w3 w2.heap.size w2.heap.size n2 d.safe) := hF
  have HB3 : Hid (Below w2.heap.size w2 w3) := hb
  clear hb hF
  clear h200
  go_wp2_with fail
  clear k0 k1 k2
  go_loopw [28] (fun i wr => ∃ (t : Nat) (L : List FI), t ≤ n3 ∧ i = .int .i64 t ∧ runO (d.ops.take t) d.safe = some L ∧ FoldL wr w2.heap.size w2.heap.size (n2 + t) L ∧ Below w2.heap.size w2 wr ∧ wr.cell? ⟨w.heap.size, 0, none⟩ = some (.slice A1 n1 c1)) (fun i _ => n3 - (intOf i).toNat)
  case atStart => exact ⟨0, d.safe, Nat.zero_le _, rfl, by simp [runO], HF3.out, HB3.out, HK.out⟩
  case round =>
    clear HF3 HB3 HK
    obtain ⟨t, L, ht, rfl, hrun, hF, hbel, k0⟩ := hrel
    have HRN : Hid (runO (d.ops.take t) d.safe = some L) := hrun
    have HF : Hid (FoldL wr w2.heap.size w2.heap.size (n2 + t) L) := hF
    have HB : Hid (Below w2.heap.size w2 wr) := hbel
    have HBW : Hid (Below w.heap.size w wr) := HB2.out.trans (hbel.mono HB2.out.size)
    have HTL : Hid (totL L ≤ 200000) := run_tot hrun HF2.out
    clear hrun hF hbel
    by_cases hlt : t < n3
    · obtain ⟨x, hx⟩ := at_lt HN3.out hlt
      have HX : Hid (d.ops[t]? = some x) := hx
      obtain ⟨b, o, rfl, hl, hc⟩ := HR3.out.2 t x hx
      have d0 : w.cell? ⟨b, o + t * 4, none⟩ = some (.int .i64 x.k) := hc 0 _ rfl
      have d1 : w.cell? ⟨b, o + t * 4 + 1, none⟩ = some (.string x.n) := hc 1 _ rfl
      have d2 : w.cell? ⟨b, o + t * 4 + 2, none⟩ = some (.string x.t) := hc 2 _ rfl
      have d3 : w.cell? ⟨b, o + t * 4 + 3, none⟩ = some (.string x.d) := hc 3 _ rfl
      clear hc hx
      rw [← HBW.out.cell (p := ⟨_, _, none⟩) hl] at d0 d1 d2 d3
      have hl2 : b < wr.heap.size := Nat.lt_of_lt_of_le hl HBW.out.size
      have hk2 : w.heap.size < wr.heap.size := World.block_lt_of_cell? wr ⟨w.heap.size, 0, none⟩ k0
      have HK0 : Hid (wr.cell? ⟨w.heap.size, 0, none⟩ = some (.slice A1 n1 c1)) := k0
      have q0 : (0 : Int) ≤ (t : Int) := by omega
      have q1 : (t : Int) < (n3 : Int) := by omega
      have hwr2 := HB.out.size
      clear k0
      go_wp2_with fail
      refine (impl_do x _ (HF.out.below (by go_grown)) (by simp; omega) (HL.out.l3 x (List.mem_of_getElem? HX.out)) (by omega) (Nat.le_trans HTL.out (by omega))).mono ?_
      rintro e w4 ⟨rfl, hF4, hb⟩
      have HF4 : Hid (FoldL w4 w2.heap.size w2.heap.size (n2 + t + 1) (doG x L)) := hF4
      have HB4 : Hid (Below w2.heap.size w2 w4) := HB.out.trans (Below.trans (by go_grown) hb)
      have HK4 : Hid (w4.cell? ⟨w.heap.size, 0, none⟩ = some (.slice A1 n1 c1)) := by
        show _ = _
        rw [hb.cell (p := ⟨w.heap.size, 0, none⟩) HS2.out, World.cell?_alloc_old _ _ _ (by show w.heap.size ≠ wr.heap.size; omega)]
        exact HK0.out
      clear hb hF4 d0 d1 d2 d3
      obtain ⟨c, HC⟩ : ∃ c, Hid (doC x L = c) := ⟨_, rfl⟩
      rw [HC.out]
      by_cases hc0 : c = 0
      · subst hc0
        go_wp2_with fail
        go_roundw
        case rel => exact ⟨t + 1, _, by omega, by go_num, runO_take HRN.out HX.out HC.out, by have h5 := HF4.out; rw [doG_of HC.out] at h5; exact h5, HB4.out, HK4.out⟩
        case measure => simp [intOf]; omega
      · have hc1 : (c == 0) = false := by simpa using hc0
        go_wp2_with fail
        go_ret
        refine ⟨ret_bool ?_, HB2.out.trans (HB4.out.mono HB2.out.size)⟩
        rw [HE.out, runO_stop HRN.out HX.out (by rw [HC.out]; exact hc0)]
    · have h1 : ¬ (t : Int) < (n3 : Int) := by omega
      obtain rfl : t = n3 := by omega
      have HRA : Hid (runO d.ops d.safe = some L) := by
        have := HRN.out
        rwa [List.take_of_length_le (by rw [HN3.out]; exact Nat.le_refl _)] at this
      have HE2 : Hid (diskB d = sameB L d.live) := by show _ = _; rw [HE.out, HRA.out]
      have hk2 : w.heap.size < wr.heap.size := World.block_lt_of_cell? wr ⟨w.heap.size, 0, none⟩ k0
      go_wp2_with fail
      go_region_held3 (fun w' => (∀ bq oq, bq < wr.heap.size → w'.cell? ⟨bq, oq, none⟩ = wr.cell? ⟨bq, oq, none⟩) ∧ wr.heap.size ≤ w'.heap.size ∧ Below wr.heap.size wr w')
        (exact sc_of (Nat.le_refl _) (by go_grown))
        (first
        | (go_at_call 45; refine (impl_inOrder _ (HF.out.below (by go_grown)) (Nat.le_trans HTL.out (by omega)) (by omega)).mono ?_; rintro e w5 ⟨v, rfl, hown, hb⟩; obtain ⟨hk1, hz1⟩ := bframe (B := wr.heap.size) (X := wr) (by go_grown) (by go_size) hb; obtain ⟨vA, vc, rfl, y1, y2⟩ := own_shape hown; have HOW : Hid (FiRow w5 vA L) := (RowAt.of_own fiL_len hown rfl); clear hb hown y1 y2)
        | (go_at_call 44; refine (slices_EqualF _ HOW.out (HR1.out.below (HBW.out.trans (hk1.mono HBW.out.size))) rfl HN1.out).mono ?_; rintro e w6 ⟨rfl, hb⟩; obtain ⟨hk3, hz3⟩ := bframe (B := wr.heap.size) (X := wr) hk1 hz1 hb; clear hb))
      all_goals go_wp2_with fail
      all_goals
        go_ret
        exact ⟨ret_bool HE2.out.symm, HBW.out.trans (hk3.mono HBW.out.size)⟩
end Go.Proofs.Ytanjlpgdmnapdaa
