import Derived.Test.YtanjlpgdmnapdaaSpA
import Derived.Test.YtanjlpgdmnapdaaFoO
namespace Go.Proofs.Ytanjlpgdmnapdaa
open Go.RowKit Go.Maps
set_option linter.unusedSimpArgs false
set_option linter.unusedVariables false

section
variable {ops : Array Oper} {rest : List Oper} {o : Oper} {a : Act} {Q : Exit → Act → World → Prop}
/-- 'append(out, f)' onto a row of files. -/
theorem wpList_app_fi {W : World} (hgd : o.guard = none) (s x : Operand) (ho : o.op = .call { callee := .builtin .append, args := #[s, x], argTypes := #[24, 24] }) (B : Nat) (v : Value) (n : Nat) (xs : List Value) (hs : a.eval s = v)
    (hown : W.ownsRow B 75 2 v n xs) (f : FI) (hx : a.eval x = .slice (some ⟨W.heap.size, 0, none⟩) 1 1) (hn : n ≤ 1099511627776) (hB : B ≤ W.heap.size)
    (h : ∀ v' w', w'.ownsRow B 75 2 v' (n + 1) (xs ++ fiL f) → (∀ w0, Below B w0 W → Below B w0 w') → wpList Try.prog ops Q rest (a.put o.dst v') w') :
    wpList Try.prog ops Q (o :: rest) a (W.alloc (.cells #[.string f.n, .string f.d] 75)) := by
  obtain ⟨i0, hi, iz0, iz1, iz2⟩ := info_parts infoFi
  refine wpList_append_own _ hgd _ _ 24 ho B 75 i0 (.agg #[.string ⟨#[]⟩, .string ⟨#[]⟩]) 2 32 Try.underlying24 hi iz0 iz1 iz2 rfl (by decide) v n xs hs (hown.alloc _) ⟨W.heap.size, 0, none⟩ 1 1 [.string f.n, .string f.d] hx rfl ?_ ?_ ?_ ?_ ?_ ?_
  · intro q u hq
    match q, hq with
    | 0, hq => simp at hq; subst hq; simp [Addr.add]
    | 1, hq => simp at hq; subst hq; simp [Addr.add]
  · intro u hu; simp at hu; rcases hu with rfl | rfl <;> rfl
  · unfold maxLen; omega
  · omega
  · simp; omega
  · intro v' w3 hown' hgrow _
    exact h v' w3 hown' (fun w0 hb => app_step hown hb hB hgrow)
end
theorem spec_l1In (n a b : Int) (w : World) : Calls Try.prog 74 #[.int .i64 n, .int .i64 a, .int .i64 b] w fun e w' => e = .returned (.bool (decide (a ≤ n) && decide (n ≤ b))) ∧ w' = w := by
  by_cases h1 : a ≤ n
  · go_enter Try.func74, Try.ntmps74
    go_wp2_with fail
    go_ret
    exact ⟨ret_bool (by simp [h1]), rfl⟩
  · go_enter Try.func74, Try.ntmps74
    go_wp2_with fail
    go_ret
    exact ⟨ret_bool (by rw [decide_eq_false (show ¬ a ≤ n by omega)]; rfl), rfl⟩
/-- What l13At answers. -/
def AtI (u : List UInt8) (L : List FI) (r : Int) : Prop := (r = -1 ∧ getK fiK u L = none) ∨ ∃ (i : Nat) (x : FI), r = (i : Int) ∧ L[i]? = some x ∧ getK fiK u L = some x
theorem first_hit {L : List FI} {u : List UInt8} {t : Nat} {x : FI} (hb : ∀ j y, j < t → L[j]? = some y → fiK y ≠ u) (hx : L[t]? = some x) (e : fiK x = u) : getK fiK u L = some x := by
  induction L generalizing t with
  | nil => simp at hx
  | cons y r ih =>
    by_cases h0 : t = 0
    · subst h0
      simp at hx
      subst hx
      simp [getK, e]
    · obtain ⟨m, rfl⟩ : ∃ m, t = m + 1 := ⟨t - 1, by omega⟩
      have h1 := hb 0 y (by omega) (by simp)
      have h2 := ih (t := m) (fun j z hj hz => hb (j + 1) z (by omega) (by simpa using hz)) (by simpa using hx)
      simp only [getK, List.find?_cons] at h2 ⊢
      rw [show (fiK y == u) = false by simpa using h1]
      exact h2
theorem str_key {a b : ByteArray} : (a.toList == b.toList) = (a.data.toList == b.data.toList) := by rw [ByteArray.toList_eq, ByteArray.toList_eq]
set_option maxRecDepth 100000 in
set_option maxHeartbeats 2000000 in
theorem spec_l13At {A : Option Addr} {n cap : Nat} {L : List FI} (s : ByteArray) (w : World) (h : FiRow w A L) (hL : L.length = n) :
    Calls Try.prog 62 #[.slice A n cap, .string s] w fun e w' => ∃ r, e = .returned (.int .i64 r) ∧ AtI s.data.toList L r ∧ w' = w := by
  have HR : Hid (FiRow w A L) := h
  have HL : Hid (L.length = n) := hL
  have hn := h.1
  rw [hL] at hn
  unfold maxLen at hn
  clear h hL
  go_enter Try.func62, Try.ntmps62
  go_wp2_with fail
  go_loopw [5] (fun i wr => ∃ t : Nat, t ≤ n ∧ i = .int .i64 t ∧ (∀ j x, j < t → L[j]? = some x → fiK x ≠ s.data.toList) ∧ wr = w) (fun i _ => n - (intOf i).toNat)
  case atStart => exact ⟨0, Nat.zero_le _, rfl, fun j x hj => by omega, rfl⟩
  case round =>
    obtain ⟨t, ht, rfl, hno, hw⟩ := hrel
    have HNO : Hid (∀ j x, j < t → L[j]? = some x → fiK x ≠ s.data.toList) := hno
    subst hw
    clear hno
    by_cases hlt : t < n
    · obtain ⟨x, hx⟩ := at_lt HL.out hlt
      have HX : Hid (L[t]? = some x) := hx
      obtain ⟨b, o, rfl, hl, hc⟩ := HR.out.2 t x hx
      have c0 : wr.cell? ⟨b, o + t * 2, none⟩ = some (.string x.n) := hc 0 _ rfl
      clear hc hx
      have q0 : (0 : Int) ≤ (t : Int) := by omega
      have q1 : (t : Int) < (n : Int) := by omega
      cases e1 : (x.n.toList == s.toList)
      · go_wp2_with fail
        go_roundw
        case rel => exact ⟨t + 1, by omega, by go_num, fun j u hj hu => by
          by_cases e : j = t
          · subst e; rw [HX.out] at hu; cases hu
            rw [str_key] at e1
            simpa [fiK] using e1
          · exact HNO.out j u (by omega) hu, by trivial⟩
        case measure => simp [intOf]; omega
      · go_wp2_with fail
        go_ret
        rw [str_key] at e1
        exact ⟨_, rfl, Or.inr ⟨t, x, rfl, HX.out, first_hit HNO.out HX.out (by simpa [fiK] using e1)⟩, rfl⟩
    · have h1 : ¬ (t : Int) < (n : Int) := by omega
      obtain rfl : t = n := by omega
      go_wp2_with fail
      go_ret
      refine ⟨_, rfl, Or.inl ⟨rfl, ?_⟩, rfl⟩
      cases hg : getK fiK s.data.toList L with
      | none => rfl
      | some x =>
        obtain ⟨h2, h3⟩ := getK_some hg
        obtain ⟨j, hj, e⟩ := List.getElem_of_mem h2
        exact absurd h3 (HNO.out j x (by rw [← HL.out]; exact hj) (by rw [List.getElem?_eq_getElem hj, e]))
theorem cut_take {L : List FI} {u : List UInt8} {t : Nat} {x : FI} (hx : L[t]? = some x) : cutK fiK u (L.take (t + 1)) = if fiK x = u then cutK fiK u (L.take t) else cutK fiK u (L.take t) ++ [x] := by
  rw [List.take_add_one, hx]
  simp only [cutK, Option.toList_some, List.filter_append, List.filter_cons, List.filter_nil]
  by_cases e : fiK x = u
  · simp [e]
  · simp [e]
set_option maxRecDepth 100000 in
set_option maxHeartbeats 2000000 in
theorem spec_l13Cut {A : Option Addr} {n cap : Nat} {L : List FI} (s : ByteArray) (w : World) (h : FiRow w A L) (hL : L.length = n) (hn : n ≤ 1099511627776) :
    Calls Try.prog 85 #[.slice A n cap, .string s] w fun e w' => ∃ v, e = .returned v ∧ w'.ownsRow w.heap.size 75 2 v (cutK fiK s.data.toList L).length (flat fiL (cutK fiK s.data.toList L)) ∧ Below w.heap.size w w' := by
  have HR : Hid (FiRow w A L) := h
  have HL : Hid (L.length = n) := hL
  clear h hL
  go_enter Try.func85, Try.ntmps85
  go_wp2_with fail
  go_loopw [5, 6] (fun q i wr => ∃ (t : Nat) (C : List FI), t ≤ n ∧ i = .int .i64 t ∧ cutK fiK s.data.toList (L.take t) = C ∧ C.length ≤ t ∧ wr.ownsRow w.heap.size 75 2 q C.length (flat fiL C) ∧ Below w.heap.size w wr) (fun _ i _ => n - (intOf i).toNat)
  case atStart => exact ⟨0, [], Nat.zero_le _, rfl, rfl, Nat.le_refl _, own_empty (Nat.le_refl _) rfl, by go_grown⟩
  case round =>
    obtain ⟨t, C, ht, rfl, hC, hCl, hown, hbel⟩ := hrel
    have HC : Hid (cutK fiK s.data.toList (L.take t) = C) := hC
    have HW : Hid (wr.ownsRow w.heap.size 75 2 u5 C.length (flat fiL C)) := hown
    have HB : Hid (Below w.heap.size w wr) := hbel
    obtain ⟨cn, HCN⟩ : ∃ cn, Hid (C.length = cn) := ⟨_, rfl⟩
    rw [HCN.out] at hCl
    clear hC hown
    by_cases hlt : t < n
    · obtain ⟨x, hx⟩ := at_lt HL.out hlt
      have HX : Hid (L[t]? = some x) := hx
      obtain ⟨b, o, rfl, hl, hc⟩ := HR.out.2 t x hx
      have c0 : w.cell? ⟨b, o + t * 2, none⟩ = some (.string x.n) := hc 0 _ rfl
      have c1 : w.cell? ⟨b, o + t * 2 + 1, none⟩ = some (.string x.d) := hc 1 _ rfl
      clear hc hx
      have hsz := hbel.size
      rw [← hbel.cell (p := ⟨_, _, none⟩) hl] at c0 c1
      have hl2 : b < wr.heap.size := Nat.lt_of_lt_of_le hl hsz
      clear hbel
      have q0 : (0 : Int) ≤ (t : Int) := by omega
      have q1 : (t : Int) < (n : Int) := by omega
      cases e1 : (x.n.toList == s.toList)
      · have HNE : Hid (¬ fiK x = s.data.toList) := by
          rw [str_key] at e1
          show ¬ _
          simpa [fiK] using e1
        go_wp2_with (first
          | (at_builtin; refine wpList_app_fi rfl _ _ rfl w.heap.size u5 cn (flat fiL C) rfl (by rw [← HCN.out]; exact HW.out) x rfl (by omega) hsz ?_)
          | go_in)
        intro v' w3 hown' hbb
        have R3 : Hid (Below w.heap.size w w3) := hbb w HB.out
        have HW3 : Hid (w3.ownsRow w.heap.size 75 2 v' (C ++ [x]).length (flat fiL (C ++ [x]))) := by
          show World.ownsRow _ _ _ _ _ _ _
          rw [flat_snoc, List.length_append, HCN.out]
          exact hown'
        clear hown' hbb
        go_wp2_with fail
        go_roundw
        case rel => exact ⟨t + 1, C ++ [x], by omega, by go_num, by rw [cut_take HX.out, if_neg HNE.out, HC.out], by rw [List.length_append, HCN.out]; simp; omega, HW3.out, R3.out⟩
        case measure => simp [intOf]; omega
      · have HEQ : Hid (fiK x = s.data.toList) := by
          rw [str_key] at e1
          show _ = _
          simpa [fiK] using e1
        go_wp2_with fail
        go_roundw
        case rel => exact ⟨t + 1, C, by omega, by go_num, by rw [cut_take HX.out, if_pos HEQ.out, HC.out], by rw [HCN.out]; omega, HW.out, HB.out⟩
        case measure => simp [intOf]; omega
    · have h1 : ¬ (t : Int) < (n : Int) := by omega
      obtain rfl : t = n := by omega
      have HE : Hid (cutK fiK s.data.toList L = C) := by
        have := HC.out
        rwa [List.take_of_length_le (by rw [HL.out]; exact Nat.le_refl _)] at this
      clear hbel
      go_wp2_with fail
      go_ret
      refine ⟨_, rfl, ?_, HB.out⟩
      rw [HE.out]
      exact HW.out
end Go.Proofs.Ytanjlpgdmnapdaa
