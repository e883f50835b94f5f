import Derived.Test.YtanjlpgdmnapdaaSpB
namespace Go.Proofs.Ytanjlpgdmnapdaa
open Go.RowKit Go.Maps
set_option linter.unusedSimpArgs false
set_option linter.unusedVariables false

theorem insK_app {x y : FI} (h : bytesBefore (fiK x) (fiK y) = true) : ∀ A : List FI, insK fiK x (A ++ [y]) = insK fiK x A ++ [y]
  | [] => by simp [insK, h]
  | a :: r => by
    simp only [List.cons_append, insK]
    split
    · rfl
    · rw [insK_app h r]; rfl
theorem cut_app (u : List UInt8) (A : List FI) (y : FI) : cutK fiK u (A ++ [y]) = if fiK y = u then cutK fiK u A else cutK fiK u A ++ [y] := by
  by_cases e : fiK y = u <;> simp [cutK, List.filter_append, e]
theorem cut_none {u : List UInt8} {A : List FI} (h : ∀ y ∈ A, fiK y ≠ u) : cutK fiK u A = A := by
  apply List.filter_eq_self.2
  intro y hy
  simpa using h y hy
theorem insK_front (x : FI) : ∀ (A B : List FI), (∀ y ∈ A, bytesBefore (fiK y) (fiK x) = true) → insK fiK x (A ++ B) = A ++ insK fiK x B
  | [], B, _ => rfl
  | a :: r, B, h => by
    simp only [List.cons_append, insK]
    rw [if_neg (by rw [bb_asym (h a (List.mem_cons_self ..))]; simp), insK_front x r B (fun y hy => h y (List.mem_cons_of_mem _ hy))]
/-- How far l13Put has come: x not laid yet, or laid. -/
def PutT (x : FI) (P : List FI) (done : Bool) (O : List FI) : Prop :=
  (done = false ∧ (∀ y ∈ P, bytesBefore (fiK y) (fiK x) = true) ∧ O = P) ∨ (done = true ∧ (∃ z ∈ P, bytesBefore (fiK z) (fiK x) = false) ∧ O = putK fiK x P)
theorem putT_lt {x y : FI} {P O : List FI} (h : PutT x P false O) (hy : bytesBefore (fiK y) (fiK x) = true) : PutT x (P ++ [y]) false (O ++ [y]) := by
  rcases h with ⟨_, h1, rfl⟩ | ⟨h0, _⟩
  · refine Or.inl ⟨rfl, fun z hz => ?_, rfl⟩
    rcases List.mem_append.1 hz with h | h
    · exact h1 z h
    · simp at h; subst h; exact hy
  · cases h0
theorem putT_eq {x y : FI} {P O : List FI} (h : PutT x P false O) (hy : fiK y = fiK x) : PutT x (P ++ [y]) true (O ++ [x]) := by
  rcases h with ⟨_, h1, rfl⟩ | ⟨h0, _⟩
  · refine Or.inr ⟨rfl, ⟨y, by simp, by rw [hy, bb_irr]⟩, ?_⟩
    rw [putK, cut_app, if_pos hy, cut_none (fun z hz => bb_ne (h1 z hz)), insK_last _ _ h1]
  · cases h0
theorem putT_gt {x y : FI} {P O : List FI} (h : PutT x P false O) (hy : bytesBefore (fiK x) (fiK y) = true) : PutT x (P ++ [y]) true (O ++ [x] ++ [y]) := by
  rcases h with ⟨_, h1, rfl⟩ | ⟨h0, _⟩
  · refine Or.inr ⟨rfl, ⟨y, by simp, bb_asym hy⟩, ?_⟩
    rw [putK, cut_app, if_neg (bb_ne hy).symm, cut_none (fun z hz => bb_ne (h1 z hz)), insK_front _ _ _ h1]
    simp [insK, hy]
  · cases h0
theorem putT_on {x y : FI} {P O : List FI} (h : PutT x P true O) (hU : ∀ z ∈ P, bytesBefore (fiK z) (fiK y) = true) : bytesBefore (fiK x) (fiK y) = true ∧ PutT x (P ++ [y]) true (O ++ [y]) := by
  rcases h with ⟨h0, _⟩ | ⟨_, ⟨z, hz, hzx⟩, rfl⟩
  · cases h0
  · have hxy : bytesBefore (fiK x) (fiK y) = true := by
      by_cases e : fiK z = fiK x
      · rw [← e]; exact hU z hz
      · exact bb_tr (bb_tot hzx e) (hU z hz)
    refine ⟨hxy, Or.inr ⟨rfl, ⟨z, by simp [hz], hzx⟩, ?_⟩⟩
    rw [putK, putK, cut_app, if_neg (bb_ne hxy).symm, insK_app hxy]
theorem up_take {L : List FI} {t : Nat} {y : FI} (hU : Up fiK L) (hy : L[t]? = some y) : ∀ z ∈ L.take t, bytesBefore (fiK z) (fiK y) = true := fun z hz => by
  have ht : t < L.length := (List.getElem?_eq_some_iff.1 hy).1
  obtain ⟨i, hi, rfl⟩ := List.getElem_of_mem hz
  have hi' : i < t := by simp at hi; omega
  have hp := List.pairwise_iff_getElem.1 hU i t (by omega) ht hi'
  rw [List.getElem_take]
  rw [(List.getElem?_eq_some_iff.1 hy).2] at hp
  exact hp
theorem putT_len {x : FI} {P O : List FI} {d : Bool} (h : PutT x P d O) : O.length ≤ P.length + 1 := by
  rcases h with ⟨_, _, rfl⟩ | ⟨_, _, rfl⟩
  · omega
  · exact len_putK _ _

set_option maxRecDepth 100000 in
set_option maxHeartbeats 4000000 in
theorem spec_l13Put {A : Option Addr} {n cap : Nat} {L : List FI} (s d : ByteArray) (w : World) (h : FiRow w A L) (hL : L.length = n) (hU : Up fiK L) (hn : n ≤ 1073741824) :
    Calls Try.prog 84 #[.slice A n cap, .string s, .string d] w fun e w' => ∃ v, e = .returned v ∧ w'.ownsRow w.heap.size 75 2 v (putK fiK ⟨s, d⟩ L).length (flat fiL (putK fiK ⟨s, d⟩ L)) ∧ Below w.heap.size w w' := by
  have HR : Hid (FiRow w A L) := h
  have HL : Hid (L.length = n) := hL
  have HU : Hid (Up fiK L) := hU
  clear h hL hU
  go_enter Try.func84, Try.ntmps84
  go_wp2_with fail
  go_loopw [7, 8, 9] (fun q dn i wr => ∃ (t : Nat) (b : Bool) (O : List FI), t ≤ n ∧ i = .int .i64 t ∧ dn = .bool b ∧ PutT ⟨s, d⟩ (L.take t) b O ∧ wr.ownsRow w.heap.size 75 2 q O.length (flat fiL O) ∧ Below w.heap.size w wr) (fun _ _ i _ => n - (intOf i).toNat)
  case atStart => exact ⟨0, false, [], Nat.zero_le _, rfl, rfl, Or.inl ⟨rfl, fun y hy => by simp at hy, rfl⟩, own_empty (Nat.le_refl _) rfl, by go_grown⟩
  case round =>
    obtain ⟨t, bd, O, ht, rfl, rfl, hP, hown, hbel⟩ := hrel
    have HP : Hid (PutT ⟨s, d⟩ (L.take t) bd O) := hP
    have HW : Hid (wr.ownsRow w.heap.size 75 2 u7 O.length (flat fiL O)) := hown
    have HB : Hid (Below w.heap.size w wr) := hbel
    obtain ⟨cn, HCN⟩ : ∃ cn, Hid (O.length = cn) := ⟨_, rfl⟩
    have hcn : cn ≤ t + 1 := by
      have h1 := putT_len hP
      rw [HCN.out] at h1
      have h2 := List.length_take_le t L
      omega
    have HW0 : Hid (wr.ownsRow w.heap.size 75 2 u7 cn (flat fiL O)) := by show World.ownsRow _ _ _ _ _ _ _; rw [← HCN.out]; exact hown
    clear hP hown
    have hsz := hbel.size
    by_cases hlt : t < n
    · obtain ⟨y, hy⟩ := at_lt HL.out hlt
      have HY : Hid (L[t]? = some y) := hy
      obtain ⟨b, o, rfl, hl, hc⟩ := HR.out.2 t y hy
      have HTK : Hid (L.take (t + 1) = L.take t ++ [y]) := by show _ = _; rw [List.take_add_one, hy]; rfl
      have c0 : w.cell? ⟨b, o + t * 2, none⟩ = some (.string y.n) := hc 0 _ rfl
      have c1 : w.cell? ⟨b, o + t * 2 + 1, none⟩ = some (.string y.d) := hc 1 _ rfl
      clear hc hy
      rw [← hbel.cell (p := ⟨_, _, none⟩) hl] at c0 c1
      have hl2 : b < wr.heap.size := Nat.lt_of_lt_of_le hl hsz
      clear hbel
      have q0 : (0 : Int) ≤ (t : Int) := by omega
      have q1 : (t : Int) < (n : Int) := by omega
      cases bd
      · rcases three y.n s with ⟨b1, b2, b3, b4⟩ | ⟨b0, b1, b2, b3, b4⟩ | ⟨b0, b1, b2, b3, b4⟩
        · -- below
          have HN : Hid (PutT ⟨s, d⟩ (L.take (t + 1)) false (O ++ [y])) := by show PutT _ _ _ _; rw [HTK.out]; exact putT_lt HP.out b1
          clear b1
          go_wp2_with (first
            | (at_builtin; refine wpList_app_fi rfl _ _ rfl w.heap.size u7 cn (flat fiL O) rfl HW0.out y rfl (by omega) hsz ?_)
            | go_in)
          intro v' w3 hown' hbb
          have R3 : Hid (Below w.heap.size w w3) := hbb w HB.out
          have HW3 : Hid (w3.ownsRow w.heap.size 75 2 v' (O ++ [y]).length (flat fiL (O ++ [y]))) := by
            show World.ownsRow _ _ _ _ _ _ _
            rw [flat_snoc, List.length_append, HCN.out]
            exact hown'
          clear hown' hbb
          go_wp2_with fail
          go_roundw
          case rel => exact ⟨t + 1, false, O ++ [y], by omega, by go_num, rfl, HN.out, HW3.out, R3.out⟩
          case measure => simp [intOf]; omega
        · -- the same name
          have HN : Hid (PutT ⟨s, d⟩ (L.take (t + 1)) true (O ++ [FI.mk s d])) := by show PutT _ _ _ _; rw [HTK.out]; exact putT_eq HP.out b0
          clear b0 b1
          go_wp2_with (first
            | (at_builtin; refine wpList_app_fi rfl _ _ rfl w.heap.size u7 cn (flat fiL O) rfl HW0.out ⟨s, d⟩ rfl (by omega) hsz ?_)
            | go_in)
          intro v' w3 hown' hbb
          have R3 : Hid (Below w.heap.size w w3) := hbb w HB.out
          have d0 : w3.cell? ⟨b, o + t * 2, none⟩ = some (.string y.n) := by
            have hR := R3.out
            have e1 := (hR.cell (p := ⟨b, o + t * 2, none⟩) hl)
            rw [e1, ← HB.out.cell (p := ⟨b, o + t * 2, none⟩) hl]; exact c0
          have HW3 : Hid (w3.ownsRow w.heap.size 75 2 v' (O ++ [FI.mk s d]).length (flat fiL (O ++ [FI.mk s d]))) := by
            show World.ownsRow _ _ _ _ _ _ _
            rw [flat_snoc, List.length_append, HCN.out]
            exact hown'
          clear hown' hbb c0 c1
          go_wp2_with fail
          go_roundw
          case rel => exact ⟨t + 1, true, O ++ [FI.mk s d], by omega, by go_num, rfl, HN.out, HW3.out, R3.out⟩
          case measure => simp [intOf]; omega
        · -- above
          have HN : Hid (PutT ⟨s, d⟩ (L.take (t + 1)) true (O ++ [FI.mk s d] ++ [y])) := by show PutT _ _ _ _; rw [HTK.out]; exact putT_gt HP.out b0
          clear b0 b1
          go_wp2_with (first
            | (at_builtin; refine wpList_app_fi rfl _ _ rfl w.heap.size u7 cn (flat fiL O) rfl HW0.out ⟨s, d⟩ rfl (by omega) hsz ?_)
            | go_in)
          intro v' w3 hown' hbb
          have R3 : Hid (Below w.heap.size w w3) := hbb w HB.out
          have d0 : w3.cell? ⟨b, o + t * 2, none⟩ = some (.string y.n) := by
            rw [R3.out.cell (p := ⟨b, o + t * 2, none⟩) hl, ← HB.out.cell (p := ⟨b, o + t * 2, none⟩) hl]; exact c0
          have d1 : w3.cell? ⟨b, o + t * 2 + 1, none⟩ = some (.string y.d) := by
            rw [R3.out.cell (p := ⟨b, o + t * 2 + 1, none⟩) hl, ← HB.out.cell (p := ⟨b, o + t * 2 + 1, none⟩) hl]; exact c1
          have hl3 : b < w3.heap.size := Nat.lt_of_lt_of_le hl R3.out.size
          have hsz3 := R3.out.size
          have HW3 : Hid (w3.ownsRow w.heap.size 75 2 v' (cn + 1) (flat fiL (O ++ [FI.mk s d]))) := by
            show World.ownsRow _ _ _ _ _ _ _
            rw [flat_snoc]
            exact hown'
          clear hown' hbb c0 c1 hl2
          go_wp2_with (first
            | (at_builtin; refine wpList_app_fi rfl _ _ rfl w.heap.size v' (cn + 1) (flat fiL (O ++ [FI.mk s d])) rfl HW3.out y rfl (by omega) hsz3 ?_)
            | go_in)
          intro v'' w4 hown'' hbb
          have R4 : Hid (Below w.heap.size w w4) := hbb w R3.out
          have HW4 : Hid (w4.ownsRow w.heap.size 75 2 v'' (O ++ [FI.mk s d] ++ [y]).length (flat fiL (O ++ [FI.mk s d] ++ [y]))) := by
            show World.ownsRow _ _ _ _ _ _ _
            rw [flat_snoc, List.length_append, List.length_append, HCN.out]
            exact hown''
          clear hown'' hbb
          go_wp2_with fail
          go_roundw
          case rel => exact ⟨t + 1, true, O ++ [FI.mk s d] ++ [y], by omega, by go_num, rfl, HN.out, HW4.out, R4.out⟩
          case measure => simp [intOf]; omega
      · obtain ⟨g1, g2⟩ := putT_on HP.out (up_take HU.out HY.out)
        have HN : Hid (PutT ⟨s, d⟩ (L.take (t + 1)) true (O ++ [y])) := by show PutT _ _ _ _; rw [HTK.out]; exact g2
        have b3 : (y.n.toList == s.toList) = false := str_ne (fun e => bb_ne g1 (by rw [fiK, fiK, e]))
        clear g1 g2
        go_wp2_with (first
          | (at_builtin; refine wpList_app_fi rfl _ _ rfl w.heap.size u7 cn (flat fiL O) rfl HW0.out y rfl (by omega) hsz ?_)
          | go_in)
        intro v' w3 hown' hbb
        have R3 : Hid (Below w.heap.size w w3) := hbb w HB.out
        have HW3 : Hid (w3.ownsRow w.heap.size 75 2 v' (O ++ [y]).length (flat fiL (O ++ [y]))) := by
          show World.ownsRow _ _ _ _ _ _ _
          rw [flat_snoc, List.length_append, HCN.out]
          exact hown'
        clear hown' hbb
        go_wp2_with fail
        go_roundw
        case rel => exact ⟨t + 1, true, O ++ [y], by omega, by go_num, rfl, HN.out, HW3.out, R3.out⟩
        case measure => simp [intOf]; omega
    · have h1 : ¬ (t : Int) < (n : Int) := by omega
      obtain rfl : t = n := by omega
      have HTA : Hid (L.take t = L) := List.take_of_length_le (by rw [HL.out]; exact Nat.le_refl _)
      clear hbel
      cases bd
      · have HE : Hid (putK fiK ⟨s, d⟩ L = O ++ [FI.mk s d]) := by
          show _ = _
          rcases HP.out with ⟨_, h2, h3⟩ | ⟨h0, _⟩
          · rw [HTA.out] at h2 h3
            rw [putK_last h2, h3]
          · cases h0
        go_wp2_with (first
          | (at_builtin; refine wpList_app_fi rfl _ _ rfl w.heap.size u7 cn (flat fiL O) rfl HW0.out ⟨s, d⟩ rfl (by omega) hsz ?_)
          | go_in)
        intro v' w3 hown' hbb
        have R3 : Hid (Below w.heap.size w w3) := hbb w HB.out
        have HW3 : Hid (w3.ownsRow w.heap.size 75 2 v' (O ++ [FI.mk s d]).length (flat fiL (O ++ [FI.mk s d]))) := by
          show World.ownsRow _ _ _ _ _ _ _
          rw [flat_snoc, List.length_append, HCN.out]
          exact hown'
        clear hown' hbb
        go_wp2_with fail
        go_ret
        refine ⟨_, rfl, ?_, R3.out⟩
        rw [HE.out]
        exact HW3.out
      · have HE : Hid (putK fiK ⟨s, d⟩ L = O) := by
          show _ = _
          rcases HP.out with ⟨h0, _⟩ | ⟨_, _, h3⟩
          · cases h0
          · rw [HTA.out] at h3; exact h3.symm
        go_wp2_with fail
        go_ret
        refine ⟨_, rfl, ?_, HB.out⟩
        rw [HE.out]
        exact HW.out
end Go.Proofs.Ytanjlpgdmnapdaa
