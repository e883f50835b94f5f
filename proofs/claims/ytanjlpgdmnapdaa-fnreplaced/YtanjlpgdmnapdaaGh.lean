import Derived.Test.YtanjlpgdmnapdaaGe
import Derived.WalkSmall
import Derived.Test.YtanjlpgdmnapdaaGg
namespace Go.Proofs.Ytanjlpgdmnapdaa
open Go.RowKit Go.Maps
set_option linter.unusedSimpArgs false
set_option linter.unusedVariables false

theorem spec_l13Name (s : ByteArray) (w : World) (hs : s.size ≤ maxLen) : Calls Try.prog 83 #[.string s] w fun e w' => e = .returned (.bool (nameB s)) ∧ w' = w := by
  unfold maxLen at hs
  by_cases h1 : 1 ≤ (s.size : Int)
  · by_cases h2 : (s.size : Int) ≤ 100
    · go_enter Try.func83, Try.ntmps83
      go_wp2_with fail
      go_ret
      exact ⟨ret_bool (by unfold nameB; symm; rw [decide_eq_true_eq]; omega), rfl⟩
    · go_enter Try.func83, Try.ntmps83
      go_wp2_with fail
      go_ret
      exact ⟨ret_bool (by unfold nameB; symm; rw [decide_eq_false_iff_not]; omega), rfl⟩
  · go_enter Try.func83, Try.ntmps83
    go_wp2_with fail
    go_ret
    exact ⟨ret_bool (by unfold nameB; symm; rw [decide_eq_false_iff_not]; omega), rfl⟩
theorem totL_next {L : List FI} {t : Nat} {x : FI} (hx : L[t]? = some x) : totL (L.take (t + 1)) = totL (L.take t) + x.d.size := by
  rw [List.take_add_one, hx, totL_app]
  simp [totL]
/-- Three ways of two names. -/
theorem three (a b : ByteArray) : (bytesBefore a.data.toList b.data.toList = true ∧ Op.bytesLess a.toList b.toList = true ∧ (a.toList == b.toList) = false ∧ Op.bytesLess b.toList a.toList = false) ∨
    (a.data.toList = b.data.toList ∧ bytesBefore a.data.toList b.data.toList = false ∧ Op.bytesLess a.toList b.toList = false ∧ (a.toList == b.toList) = true ∧ Op.bytesLess b.toList a.toList = false) ∨
    (bytesBefore b.data.toList a.data.toList = true ∧ bytesBefore a.data.toList b.data.toList = false ∧ Op.bytesLess a.toList b.toList = false ∧ (a.toList == b.toList) = false ∧ Op.bytesLess b.toList a.toList = true) := by
  by_cases e : a.data.toList = b.data.toList
  · have e2 : a = b := ByteArray.ext (Array.toList_inj.1 e)
    subst e2
    exact Or.inr (Or.inl ⟨rfl, bb_irr _, by rw [bl_eq, bb_irr], by simp, by rw [bl_eq, bb_irr]⟩)
  · have hne : (a.toList == b.toList) = false := by
      apply str_ne
      rintro rfl
      exact e rfl
    cases h : bytesBefore a.data.toList b.data.toList
    · have h2 := bb_tot h e
      exact Or.inr (Or.inr ⟨h2, rfl, by rw [bl_eq, h], hne, by rw [bl_eq, h2]⟩)
    · exact Or.inl ⟨rfl, by rw [bl_eq, h], hne, by rw [bl_eq, bb_asym h]⟩

set_option maxRecDepth 100000 in
set_option maxHeartbeats 4000000 in
theorem spec_l13Files {A : Option Addr} {n cap : Nat} {L : List FI} (w : World) (h : FiRow w A L) (hL : L.length = n) (hx : ∀ x ∈ L, x.n.size ≤ maxLen) (hT : totL L ≤ 1099511627776) (hn : n ≤ 1099511627776) :
    Calls Try.prog 46 #[.slice A n cap] w fun e w' => e = .returned (.bool (filesB L)) ∧ Below w.heap.size w w' := by
  have HR : Hid (FiRow w A L) := h
  have HL : Hid (L.length = n) := hL
  have HX : Hid (∀ x ∈ L, x.n.size ≤ maxLen) := hx
  have HT : Hid (totL L ≤ 1099511627776) := hT
  clear h hL hx hT
  by_cases h60 : (60 : Int) < (n : Int)
  · have HE : Hid (filesB L = false) := by
      show _ = _
      rw [filesB, decide_eq_false (by rw [HL.out]; omega)]; rfl
    go_enter Try.func46, Try.ntmps46
    go_wp2_with fail
    go_ret
    exact ⟨ret_bool HE.out.symm, by go_grown⟩
  have HE : Hid (filesB L = (ascB L && (L.all (fun x => nameB x.n) && decide (totL L ≤ 200000)))) := by
    show _ = _
    rw [filesB, decide_eq_true (by rw [HL.out]; omega)]; rfl
  go_enter Try.func46, Try.ntmps46
  go_wp2_with fail
  go_loopw [3, 4] (fun q i wr => ∃ t : Nat, t ≤ n ∧ i = .int .i64 t ∧ q = .int .i64 (totL (L.take t) : Nat) ∧ (∀ j x, j < t → L[j]? = some x → nameB x.n = true) ∧ (∀ j x y, j + 1 < t → L[j]? = some x → L[j + 1]? = some y → bytesBefore (fiK x) (fiK y) = true) ∧ Below w.heap.size w wr) (fun _ i _ => n - (intOf i).toNat)
  case atStart => exact ⟨0, Nat.zero_le _, rfl, rfl, fun j x hj => by omega, fun j x y hj => by omega, Below.refl _ _⟩
  case round =>
    obtain ⟨t, ht, rfl, rfl, hnm, has, hbel⟩ := hrel
    have HNM : Hid (∀ j x, j < t → L[j]? = some x → nameB x.n = true) := hnm
    have HAS : Hid (∀ j x y, j + 1 < t → L[j]? = some x → L[j + 1]? = some y → bytesBefore (fiK x) (fiK y) = true) := has
    clear hnm has
    obtain ⟨su, HSU⟩ : ∃ su, Hid (totL (L.take t) = su) := ⟨_, rfl⟩
    rw [HSU.out]
    by_cases hlt : t < n
    · obtain ⟨x, hx⟩ := at_lt HL.out hlt
      have HXT : Hid (L[t]? = some x) := hx
      obtain ⟨b, o, rfl, hl, hc⟩ := HR.out.2 t x hx
      have c0 : w.cell? ⟨b, o + t * 2, none⟩ = some (.string x.n) := hc 0 _ rfl
      have c1 : w.cell? ⟨b, o + t * 2 + 1, none⟩ = some (.string x.d) := hc 1 _ rfl
      clear hc hx
      rw [← hbel.cell (p := ⟨_, _, none⟩) hl] at c0 c1
      have q0 : (0 : Int) ≤ (t : Int) := by omega
      have q1 : (t : Int) < (n : Int) := by omega
      have hb1 : su ≤ 1099511627776 ∧ x.d.size ≤ 1099511627776 := by
        have h1 := totL_next HXT.out
        have h2 := totL_take L (t + 1)
        have h3 := HT.out
        rw [HSU.out] at h1
        omega
      obtain ⟨hb1, hb2⟩ := hb1
      have HSX : Hid (x.n.size ≤ maxLen) := HX.out x (List.mem_of_getElem? HXT.out)
      have HNX : Hid (totL (L.take (t + 1)) = su + x.d.size) := by show _ = _; rw [totL_next HXT.out, HSU.out]
      cases hnx : nameB x.n
      · have HF : Hid (filesB L = false) := by
          show _ = _
          rw [HE.out, show L.all (fun x => nameB x.n) = false from List.all_eq_false.2 ⟨x, List.mem_of_getElem? HXT.out, by simp [hnx]⟩]
          simp
        have FT : Hid (∀ W : World, Calls Try.prog 83 #[.string x.n] W fun e w' => e = .returned (.bool false) ∧ w' = W) := fun W => by
          have hh := spec_l13Name x.n W HSX.out
          rw [hnx] at hh
          exact hh
        clear hnx
        go_wp2_with fail
        go_quiet ((go_at_call 83; refine Calls.quiet_of_same (FT.out _)))
        go_wp2_with fail
        go_ret
        exact ⟨ret_bool HF.out.symm, below_drewN hbel _⟩
      · have HNT : Hid (nameB x.n = true) := hnx
        have FT : Hid (∀ W : World, Calls Try.prog 83 #[.string x.n] W fun e w' => e = .returned (.bool true) ∧ w' = W) := fun W => by
          have hh := spec_l13Name x.n W HSX.out
          rw [hnx] at hh
          exact hh
        clear hnx
        by_cases ht0 : t = 0
        · have q5 : decide (0 < t) = false := decide_eq_false (by omega)
          have HT0 : Hid (t = 0) := ht0
          clear ht0
          go_wp2_with fail
          go_quiet ((go_at_call 83; refine Calls.quiet_of_same (FT.out _)))
          go_wp2_with fail
          go_roundw
          case rel => exact ⟨t + 1, by omega, by go_num, by rw [HNX.out]; simp, fun j u hj hu => by
            obtain rfl : j = t := by have := HT0.out; omega
            rw [HXT.out] at hu; cases hu; exact HNT.out, fun j u v hj => by have := HT0.out; omega, below_drewN hbel _⟩
          case measure => simp [intOf]; omega
        · obtain ⟨m, HM⟩ : ∃ m, Hid (t = m + 1) := ⟨t - 1, (by omega : t = t - 1 + 1)⟩
          obtain ⟨y, hy⟩ := at_lt HL.out (show m < n by have := HM.out; omega)
          have HY : Hid (L[m]? = some y) := hy
          have HXM : Hid (L[m + 1]? = some x) := by have h := HXT.out; rw [HM.out] at h; exact h
          obtain ⟨b', o', e, _, hc'⟩ := HR.out.2 m y hy
          cases e
          have d0 : w.cell? ⟨b, o + m * 2, none⟩ = some (.string y.n) := hc' 0 _ rfl
          clear hc' hy
          rw [← hbel.cell (p := ⟨_, _, none⟩) hl] at d0
          have q2 : (0 : Int) ≤ (m : Int) := by omega
          have q3 : (m : Int) < (n : Int) := by have := HM.out; omega
          have q4 : IntKind.i64.wrap ((t : Int) - 1) = (m : Int) := by rw [IntKind.wrap_i64]; have := HM.out; omega
          have q5 : decide (0 < t) = true := decide_eq_true (by omega)
          rcases three y.n x.n with ⟨b1, b2, b3, b4⟩ | ⟨b0, b1, b2, b3, b4⟩ | ⟨b0, b1, b2, b3, b4⟩
          · have HB1 : Hid (bytesBefore (fiK y) (fiK x) = true) := b1
            have b5 : (x.n.toList == y.n.toList) = false := by cases e : (x.n.toList == y.n.toList) <;> simp_all
            clear b1
            go_wp2_with fail
            go_quiet ((go_at_call 83; refine Calls.quiet_of_same (FT.out _)))
            go_wp2_with fail
            go_roundw
            case rel => exact ⟨t + 1, by omega, by go_num, by rw [HNX.out]; simp, fun j u hj hu => by
              by_cases e : j = t
              · subst e; rw [HXT.out] at hu; cases hu; exact HNT.out
              · exact HNM.out j u (by omega) hu, fun j u v hj hu hv => by
              by_cases e : j = m
              · subst e; rw [HY.out] at hu; rw [HXM.out] at hv; cases hu; cases hv; exact HB1.out
              · exact HAS.out j u v (by have := HM.out; omega) hu hv, below_drewN hbel _⟩
            case measure => simp [intOf]; omega
          all_goals
            have HF : Hid (filesB L = false) := by
              show _ = _
              rw [HE.out, asc_no HY.out HXM.out b1]; rfl
            have b5 : (x.n.toList == y.n.toList) = (y.n.toList == x.n.toList) := by
              cases e1 : (x.n.toList == y.n.toList) <;> cases e2 : (y.n.toList == x.n.toList) <;> simp_all
            rw [b3] at b5
            clear b0 b1
            go_wp2_with fail
            go_quiet ((go_at_call 83; refine Calls.quiet_of_same (FT.out _)))
            go_wp2_with fail
            go_ret
            exact ⟨ret_bool HF.out.symm, below_drewN hbel _⟩
    · have h1 : ¬ (t : Int) < (n : Int) := by omega
      obtain rfl : t = n := by omega
      have HS2 : Hid (su = totL L) := by
        show _ = _
        rw [← HSU.out, List.take_of_length_le (by rw [HL.out]; exact Nat.le_refl _)]
      have HF : Hid (filesB L = decide ((su : Int) ≤ 200000)) := by
        show _ = _
        rw [HE.out, asc_of (fun j x y hx hy => HAS.out j x y (by have := (List.getElem?_eq_some_iff.1 hy).1; have := HL.out; omega) hx hy), List.all_eq_true.2 (fun x hx => by
          obtain ⟨j, hj, e⟩ := List.getElem_of_mem hx
          exact HNM.out j x (by rw [← HL.out]; exact hj) (by rw [List.getElem?_eq_getElem hj, e])), HS2.out]
        simp only [Bool.true_and]
        exact decide_eq_decide.2 (by omega)
      go_wp2_with fail
      go_ret
      exact ⟨ret_bool HF.out.symm, hbel⟩
end Go.Proofs.Ytanjlpgdmnapdaa
namespace Go.Proofs.Ytanjlpgdmnapdaa
open Go.RowKit Go.Maps
set_option linter.unusedSimpArgs false
set_option linter.unusedVariables false

section
variable {ops : Array Oper} {rest : List Oper} {o : Oper} {a : Act} {Q : Exit → Act → World → Prop}
/-- 'append(out, f)' onto a row of files. -/
theorem wpList_app_fi {W : World} (hgd : o.guard = none) (s x : Operand) (ho : o.op = .call { callee := .builtin .append, args := #[s, x], argTypes := #[24, 24] }) (B : Nat) (v : Value) (n : Nat) (xs : List Value) (hs : a.eval s = v)
    (hown : W.ownsRow B 75 2 v n xs) (f : FI) (hx : a.eval x = .slice (some ⟨W.heap.size, 0, none⟩) 1 1) (hn : n ≤ 1099511627776) (hB : B ≤ W.heap.size)
    (h : ∀ v' w', w'.ownsRow B 75 2 v' (n + 1) (xs ++ fiL f) → (∀ w0, Below B w0 W → Below B w0 w') → wpList Try.prog ops Q rest (a.put o.dst v') w') :
    wpList Try.prog ops Q (o :: rest) a (W.alloc (.cells #[.string f.n, .string f.d] 75)) := by
  obtain ⟨i0, hi, iz0, iz1, iz2⟩ := info_parts infoFi
  refine wpList_append_own _ hgd _ _ 24 ho B 75 i0 (.agg #[.string ⟨#[]⟩, .string ⟨#[]⟩]) 2 32 Try.underlying24 hi iz0 iz1 iz2 rfl (by decide) v n xs hs (hown.alloc _) ⟨W.heap.size, 0, none⟩ 1 1 [.string f.n, .string f.d] hx rfl ?_ ?_ ?_ ?_ ?_ ?_
  · intro q u hq
    match q, hq with
    | 0, hq => simp at hq; subst hq; simp [Addr.add]
    | 1, hq => simp at hq; subst hq; simp [Addr.add]
  · intro u hu; simp at hu; rcases hu with rfl | rfl <;> rfl
  · unfold maxLen; omega
  · omega
  · simp; omega
  · intro v' w3 hown' hgrow _
    exact h v' w3 hown' (fun w0 hb => app_step hown hb hB hgrow)
end
theorem spec_l1In (n a b : Int) (w : World) : Calls Try.prog 74 #[.int .i64 n, .int .i64 a, .int .i64 b] w fun e w' => e = .returned (.bool (decide (a ≤ n) && decide (n ≤ b))) ∧ w' = w := by
  by_cases h1 : a ≤ n
  · go_enter Try.func74, Try.ntmps74
    go_wp2_with fail
    go_ret
    exact ⟨ret_bool (by simp [h1]), rfl⟩
  · go_enter Try.func74, Try.ntmps74
    go_wp2_with fail
    go_ret
    exact ⟨ret_bool (by rw [decide_eq_false (show ¬ a ≤ n by omega)]; rfl), rfl⟩
/-- What l13At answers. -/
def AtI (u : List UInt8) (L : List FI) (r : Int) : Prop := (r = -1 ∧ getK fiK u L = none) ∨ ∃ (i : Nat) (x : FI), r = (i : Int) ∧ L[i]? = some x ∧ getK fiK u L = some x
theorem first_hit {L : List FI} {u : List UInt8} {t : Nat} {x : FI} (hb : ∀ j y, j < t → L[j]? = some y → fiK y ≠ u) (hx : L[t]? = some x) (e : fiK x = u) : getK fiK u L = some x := by
  induction L generalizing t with
  | nil => simp at hx
  | cons y r ih =>
    by_cases h0 : t = 0
    · subst h0
      simp at hx
      subst hx
      simp [getK, e]
    · obtain ⟨m, rfl⟩ : ∃ m, t = m + 1 := ⟨t - 1, by omega⟩
      have h1 := hb 0 y (by omega) (by simp)
      have h2 := ih (t := m) (fun j z hj hz => hb (j + 1) z (by omega) (by simpa using hz)) (by simpa using hx)
      simp only [getK, List.find?_cons] at h2 ⊢
      rw [show (fiK y == u) = false by simpa using h1]
      exact h2
theorem str_key {a b : ByteArray} : (a.toList == b.toList) = (a.data.toList == b.data.toList) := by rw [ByteArray.toList_eq, ByteArray.toList_eq]
set_option maxRecDepth 100000 in
set_option maxHeartbeats 2000000 in
theorem spec_l13At {A : Option Addr} {n cap : Nat} {L : List FI} (s : ByteArray) (w : World) (h : FiRow w A L) (hL : L.length = n) :
    Calls Try.prog 62 #[.slice A n cap, .string s] w fun e w' => ∃ r, e = .returned (.int .i64 r) ∧ AtI s.data.toList L r ∧ w' = w := by
  have HR : Hid (FiRow w A L) := h
  have HL : Hid (L.length = n) := hL
  have hn := h.1
  rw [hL] at hn
  unfold maxLen at hn
  clear h hL
  go_enter Try.func62, Try.ntmps62
  go_wp2_with fail
  go_loopw [5] (fun i wr => ∃ t : Nat, t ≤ n ∧ i = .int .i64 t ∧ (∀ j x, j < t → L[j]? = some x → fiK x ≠ s.data.toList) ∧ wr = w) (fun i _ => n - (intOf i).toNat)
  case atStart => exact ⟨0, Nat.zero_le _, rfl, fun j x hj => by omega, rfl⟩
  case round =>
    obtain ⟨t, ht, rfl, hno, hw⟩ := hrel
    have HNO : Hid (∀ j x, j < t → L[j]? = some x → fiK x ≠ s.data.toList) := hno
    subst hw
    clear hno
    by_cases hlt : t < n
    · obtain ⟨x, hx⟩ := at_lt HL.out hlt
      have HX : Hid (L[t]? = some x) := hx
      obtain ⟨b, o, rfl, hl, hc⟩ := HR.out.2 t x hx
      have c0 : wr.cell? ⟨b, o + t * 2, none⟩ = some (.string x.n) := hc 0 _ rfl
      clear hc hx
      have q0 : (0 : Int) ≤ (t : Int) := by omega
      have q1 : (t : Int) < (n : Int) := by omega
      cases e1 : (x.n.toList == s.toList)
      · go_wp2_with fail
        go_roundw
        case rel => exact ⟨t + 1, by omega, by go_num, fun j u hj hu => by
          by_cases e : j = t
          · subst e; rw [HX.out] at hu; cases hu
            rw [str_key] at e1
            simpa [fiK] using e1
          · exact HNO.out j u (by omega) hu, by trivial⟩
        case measure => simp [intOf]; omega
      · go_wp2_with fail
        go_ret
        rw [str_key] at e1
        exact ⟨_, rfl, Or.inr ⟨t, x, rfl, HX.out, first_hit HNO.out HX.out (by simpa [fiK] using e1)⟩, rfl⟩
    · have h1 : ¬ (t : Int) < (n : Int) := by omega
      obtain rfl : t = n := by omega
      go_wp2_with fail
      go_ret
      refine ⟨_, rfl, Or.inl ⟨rfl, ?_⟩, rfl⟩
      cases hg : getK fiK s.data.toList L with
      | none => rfl
      | some x =>
        obtain ⟨h2, h3⟩ := getK_some hg
        obtain ⟨j, hj, e⟩ := List.getElem_of_mem h2
        exact absurd h3 (HNO.out j x (by rw [← HL.out]; exact hj) (by rw [List.getElem?_eq_getElem hj, e]))
theorem cut_take {L : List FI} {u : List UInt8} {t : Nat} {x : FI} (hx : L[t]? = some x) : cutK fiK u (L.take (t + 1)) = if fiK x = u then cutK fiK u (L.take t) else cutK fiK u (L.take t) ++ [x] := by
  rw [List.take_add_one, hx]
  simp only [cutK, Option.toList_some, List.filter_append, List.filter_cons, List.filter_nil]
  by_cases e : fiK x = u
  · simp [e]
  · simp [e]
set_option maxRecDepth 100000 in
set_option maxHeartbeats 2000000 in
theorem spec_l13Cut {A : Option Addr} {n cap : Nat} {L : List FI} (s : ByteArray) (w : World) (h : FiRow w A L) (hL : L.length = n) (hn : n ≤ 1099511627776) :
    Calls Try.prog 85 #[.slice A n cap, .string s] w fun e w' => ∃ v, e = .returned v ∧ w'.ownsRow w.heap.size 75 2 v (cutK fiK s.data.toList L).length (flat fiL (cutK fiK s.data.toList L)) ∧ Below w.heap.size w w' := by
  have HR : Hid (FiRow w A L) := h
  have HL : Hid (L.length = n) := hL
  clear h hL
  go_enter Try.func85, Try.ntmps85
  go_wp2_with fail
  go_loopw [5, 6] (fun q i wr => ∃ (t : Nat) (C : List FI), t ≤ n ∧ i = .int .i64 t ∧ cutK fiK s.data.toList (L.take t) = C ∧ C.length ≤ t ∧ wr.ownsRow w.heap.size 75 2 q C.length (flat fiL C) ∧ Below w.heap.size w wr) (fun _ i _ => n - (intOf i).toNat)
  case atStart => exact ⟨0, [], Nat.zero_le _, rfl, rfl, Nat.le_refl _, own_empty (Nat.le_refl _) rfl, by go_grown⟩
  case round =>
    obtain ⟨t, C, ht, rfl, hC, hCl, hown, hbel⟩ := hrel
    have HC : Hid (cutK fiK s.data.toList (L.take t) = C) := hC
    have HW : Hid (wr.ownsRow w.heap.size 75 2 u5 C.length (flat fiL C)) := hown
    have HB : Hid (Below w.heap.size w wr) := hbel
    obtain ⟨cn, HCN⟩ : ∃ cn, Hid (C.length = cn) := ⟨_, rfl⟩
    rw [HCN.out] at hCl
    clear hC hown
    by_cases hlt : t < n
    · obtain ⟨x, hx⟩ := at_lt HL.out hlt
      have HX : Hid (L[t]? = some x) := hx
      obtain ⟨b, o, rfl, hl, hc⟩ := HR.out.2 t x hx
      have c0 : w.cell? ⟨b, o + t * 2, none⟩ = some (.string x.n) := hc 0 _ rfl
      have c1 : w.cell? ⟨b, o + t * 2 + 1, none⟩ = some (.string x.d) := hc 1 _ rfl
      clear hc hx
      have hsz := hbel.size
      rw [← hbel.cell (p := ⟨_, _, none⟩) hl] at c0 c1
      have hl2 : b < wr.heap.size := Nat.lt_of_lt_of_le hl hsz
      clear hbel
      have q0 : (0 : Int) ≤ (t : Int) := by omega
      have q1 : (t : Int) < (n : Int) := by omega
      cases e1 : (x.n.toList == s.toList)
      · have HNE : Hid (¬ fiK x = s.data.toList) := by
          rw [str_key] at e1
          show ¬ _
          simpa [fiK] using e1
        go_wp2_with (first
          | (at_builtin; refine wpList_app_fi rfl _ _ rfl w.heap.size u5 cn (flat fiL C) rfl (by rw [← HCN.out]; exact HW.out) x rfl (by omega) hsz ?_)
          | go_in)
        intro v' w3 hown' hbb
        have R3 : Hid (Below w.heap.size w w3) := hbb w HB.out
        have HW3 : Hid (w3.ownsRow w.heap.size 75 2 v' (C ++ [x]).length (flat fiL (C ++ [x]))) := by
          show World.ownsRow _ _ _ _ _ _ _
          rw [flat_snoc, List.length_append, HCN.out]
          exact hown'
        clear hown' hbb
        go_wp2_with fail
        go_roundw
        case rel => exact ⟨t + 1, C ++ [x], by omega, by go_num, by rw [cut_take HX.out, if_neg HNE.out, HC.out], by rw [List.length_append, HCN.out]; simp; omega, HW3.out, R3.out⟩
        case measure => simp [intOf]; omega
      · have HEQ : Hid (fiK x = s.data.toList) := by
          rw [str_key] at e1
          show _ = _
          simpa [fiK] using e1
        go_wp2_with fail
        go_roundw
        case rel => exact ⟨t + 1, C, by omega, by go_num, by rw [cut_take HX.out, if_pos HEQ.out, HC.out], by rw [HCN.out]; omega, HW.out, HB.out⟩
        case measure => simp [intOf]; omega
    · have h1 : ¬ (t : Int) < (n : Int) := by omega
      obtain rfl : t = n := by omega
      have HE : Hid (cutK fiK s.data.toList L = C) := by
        have := HC.out
        rwa [List.take_of_length_le (by rw [HL.out]; exact Nat.le_refl _)] at this
      clear hbel
      go_wp2_with fail
      go_ret
      refine ⟨_, rfl, ?_, HB.out⟩
      rw [HE.out]
      exact HW.out
end Go.Proofs.Ytanjlpgdmnapdaa
namespace Go.Proofs.Ytanjlpgdmnapdaa
open Go.RowKit Go.Maps
set_option linter.unusedSimpArgs false
set_option linter.unusedVariables false

theorem insK_app {x y : FI} (h : bytesBefore (fiK x) (fiK y) = true) : ∀ A : List FI, insK fiK x (A ++ [y]) = insK fiK x A ++ [y]
  | [] => by simp [insK, h]
  | a :: r => by
    simp only [List.cons_append, insK]
    split
    · rfl
    · rw [insK_app h r]; rfl
theorem cut_app (u : List UInt8) (A : List FI) (y : FI) : cutK fiK u (A ++ [y]) = if fiK y = u then cutK fiK u A else cutK fiK u A ++ [y] := by
  by_cases e : fiK y = u <;> simp [cutK, List.filter_append, e]
theorem cut_none {u : List UInt8} {A : List FI} (h : ∀ y ∈ A, fiK y ≠ u) : cutK fiK u A = A := by
  apply List.filter_eq_self.2
  intro y hy
  simpa using h y hy
theorem insK_front (x : FI) : ∀ (A B : List FI), (∀ y ∈ A, bytesBefore (fiK y) (fiK x) = true) → insK fiK x (A ++ B) = A ++ insK fiK x B
  | [], B, _ => rfl
  | a :: r, B, h => by
    simp only [List.cons_append, insK]
    rw [if_neg (by rw [bb_asym (h a (List.mem_cons_self ..))]; simp), insK_front x r B (fun y hy => h y (List.mem_cons_of_mem _ hy))]
/-- How far l13Put has come: x not laid yet, or laid. -/
def PutT (x : FI) (P : List FI) (done : Bool) (O : List FI) : Prop :=
  (done = false ∧ (∀ y ∈ P, bytesBefore (fiK y) (fiK x) = true) ∧ O = P) ∨ (done = true ∧ (∃ z ∈ P, bytesBefore (fiK z) (fiK x) = false) ∧ O = putK fiK x P)
theorem putT_lt {x y : FI} {P O : List FI} (h : PutT x P false O) (hy : bytesBefore (fiK y) (fiK x) = true) : PutT x (P ++ [y]) false (O ++ [y]) := by
  rcases h with ⟨_, h1, rfl⟩ | ⟨h0, _⟩
  · refine Or.inl ⟨rfl, fun z hz => ?_, rfl⟩
    rcases List.mem_append.1 hz with h | h
    · exact h1 z h
    · simp at h; subst h; exact hy
  · cases h0
theorem putT_eq {x y : FI} {P O : List FI} (h : PutT x P false O) (hy : fiK y = fiK x) : PutT x (P ++ [y]) true (O ++ [x]) := by
  rcases h with ⟨_, h1, rfl⟩ | ⟨h0, _⟩
  · refine Or.inr ⟨rfl, ⟨y, by simp, by rw [hy, bb_irr]⟩, ?_⟩
    rw [putK, cut_app, if_pos hy, cut_none (fun z hz => bb_ne (h1 z hz)), insK_last _ _ h1]
  · cases h0
theorem putT_gt {x y : FI} {P O : List FI} (h : PutT x P false O) (hy : bytesBefore (fiK x) (fiK y) = true) : PutT x (P ++ [y]) true (O ++ [x] ++ [y]) := by
  rcases h with ⟨_, h1, rfl⟩ | ⟨h0, _⟩
  · refine Or.inr ⟨rfl, ⟨y, by simp, bb_asym hy⟩, ?_⟩
    rw [putK, cut_app, if_neg (bb_ne hy).symm, cut_none (fun z hz => bb_ne (h1 z hz)), insK_front _ _ _ h1]
    simp [insK, hy]
  · cases h0
theorem putT_on {x y : FI} {P O : List FI} (h : PutT x P true O) (hU : ∀ z ∈ P, bytesBefore (fiK z) (fiK y) = true) : bytesBefore (fiK x) (fiK y) = true ∧ PutT x (P ++ [y]) true (O ++ [y]) := by
  rcases h with ⟨h0, _⟩ | ⟨_, ⟨z, hz, hzx⟩, rfl⟩
  · cases h0
  · have hxy : bytesBefore (fiK x) (fiK y) = true := by
      by_cases e : fiK z = fiK x
      · rw [← e]; exact hU z hz
      · exact bb_tr (bb_tot hzx e) (hU z hz)
    refine ⟨hxy, Or.inr ⟨rfl, ⟨z, by simp [hz], hzx⟩, ?_⟩⟩
    rw [putK, putK, cut_app, if_neg (bb_ne hxy).symm, insK_app hxy]
theorem up_take {L : List FI} {t : Nat} {y : FI} (hU : Up fiK L) (hy : L[t]? = some y) : ∀ z ∈ L.take t, bytesBefore (fiK z) (fiK y) = true := fun z hz => by
  have ht : t < L.length := (List.getElem?_eq_some_iff.1 hy).1
  obtain ⟨i, hi, rfl⟩ := List.getElem_of_mem hz
  have hi' : i < t := by simp at hi; omega
  have hp := List.pairwise_iff_getElem.1 hU i t (by omega) ht hi'
  rw [List.getElem_take]
  rw [(List.getElem?_eq_some_iff.1 hy).2] at hp
  exact hp
theorem putT_len {x : FI} {P O : List FI} {d : Bool} (h : PutT x P d O) : O.length ≤ P.length + 1 := by
  rcases h with ⟨_, _, rfl⟩ | ⟨_, _, rfl⟩
  · omega
  · exact len_putK _ _

set_option maxRecDepth 100000 in
set_option maxHeartbeats 4000000 in
theorem spec_l13Put {A : Option Addr} {n cap : Nat} {L : List FI} (s d : ByteArray) (w : World) (h : FiRow w A L) (hL : L.length = n) (hU : Up fiK L) (hn : n ≤ 1073741824) :
    Calls Try.prog 84 #[.slice A n cap, .string s, .string d] w fun e w' => ∃ v, e = .returned v ∧ w'.ownsRow w.heap.size 75 2 v (putK fiK ⟨s, d⟩ L).length (flat fiL (putK fiK ⟨s, d⟩ L)) ∧ Below w.heap.size w w' := by
  have HR : Hid (FiRow w A L) := h
  have HL : Hid (L.length = n) := hL
  have HU : Hid (Up fiK L) := hU
  clear h hL hU
  go_enter Try.func84, Try.ntmps84
  go_wp2_with fail
  go_loopw [7, 8, 9] (fun q dn i wr => ∃ (t : Nat) (b : Bool) (O : List FI), t ≤ n ∧ i = .int .i64 t ∧ dn = .bool b ∧ PutT ⟨s, d⟩ (L.take t) b O ∧ wr.ownsRow w.heap.size 75 2 q O.length (flat fiL O) ∧ Below w.heap.size w wr) (fun _ _ i _ => n - (intOf i).toNat)
  case atStart => exact ⟨0, false, [], Nat.zero_le _, rfl, rfl, Or.inl ⟨rfl, fun y hy => by simp at hy, rfl⟩, own_empty (Nat.le_refl _) rfl, by go_grown⟩
  case round =>
    obtain ⟨t, bd, O, ht, rfl, rfl, hP, hown, hbel⟩ := hrel
    have HP : Hid (PutT ⟨s, d⟩ (L.take t) bd O) := hP
    have HW : Hid (wr.ownsRow w.heap.size 75 2 u7 O.length (flat fiL O)) := hown
    have HB : Hid (Below w.heap.size w wr) := hbel
    obtain ⟨cn, HCN⟩ : ∃ cn, Hid (O.length = cn) := ⟨_, rfl⟩
    have hcn : cn ≤ t + 1 := by
      have h1 := putT_len hP
      rw [HCN.out] at h1
      have h2 := List.length_take_le t L
      omega
    have HW0 : Hid (wr.ownsRow w.heap.size 75 2 u7 cn (flat fiL O)) := by show World.ownsRow _ _ _ _ _ _ _; rw [← HCN.out]; exact hown
    clear hP hown
    have hsz := hbel.size
    by_cases hlt : t < n
    · obtain ⟨y, hy⟩ := at_lt HL.out hlt
      have HY : Hid (L[t]? = some y) := hy
      obtain ⟨b, o, rfl, hl, hc⟩ := HR.out.2 t y hy
      have HTK : Hid (L.take (t + 1) = L.take t ++ [y]) := by show _ = _; rw [List.take_add_one, hy]; rfl
      have c0 : w.cell? ⟨b, o + t * 2, none⟩ = some (.string y.n) := hc 0 _ rfl
      have c1 : w.cell? ⟨b, o + t * 2 + 1, none⟩ = some (.string y.d) := hc 1 _ rfl
      clear hc hy
      rw [← hbel.cell (p := ⟨_, _, none⟩) hl] at c0 c1
      have hl2 : b < wr.heap.size := Nat.lt_of_lt_of_le hl hsz
      clear hbel
      have q0 : (0 : Int) ≤ (t : Int) := by omega
      have q1 : (t : Int) < (n : Int) := by omega
      cases bd
      · rcases three y.n s with ⟨b1, b2, b3, b4⟩ | ⟨b0, b1, b2, b3, b4⟩ | ⟨b0, b1, b2, b3, b4⟩
        · -- below
          have HN : Hid (PutT ⟨s, d⟩ (L.take (t + 1)) false (O ++ [y])) := by show PutT _ _ _ _; rw [HTK.out]; exact putT_lt HP.out b1
          clear b1
          go_wp2_with (first
            | (at_builtin; refine wpList_app_fi rfl _ _ rfl w.heap.size u7 cn (flat fiL O) rfl HW0.out y rfl (by omega) hsz ?_)
            | go_in)
          intro v' w3 hown' hbb
          have R3 : Hid (Below w.heap.size w w3) := hbb w HB.out
          have HW3 : Hid (w3.ownsRow w.heap.size 75 2 v' (O ++ [y]).length (flat fiL (O ++ [y]))) := by
            show World.ownsRow _ _ _ _ _ _ _
            rw [flat_snoc, List.length_append, HCN.out]
            exact hown'
          clear hown' hbb
          go_wp2_with fail
          go_roundw
          case rel => exact ⟨t + 1, false, O ++ [y], by omega, by go_num, rfl, HN.out, HW3.out, R3.out⟩
          case measure => simp [intOf]; omega
        · -- the same name
          have HN : Hid (PutT ⟨s, d⟩ (L.take (t + 1)) true (O ++ [FI.mk s d])) := by show PutT _ _ _ _; rw [HTK.out]; exact putT_eq HP.out b0
          clear b0 b1
          go_wp2_with (first
            | (at_builtin; refine wpList_app_fi rfl _ _ rfl w.heap.size u7 cn (flat fiL O) rfl HW0.out ⟨s, d⟩ rfl (by omega) hsz ?_)
            | go_in)
          intro v' w3 hown' hbb
          have R3 : Hid (Below w.heap.size w w3) := hbb w HB.out
          have d0 : w3.cell? ⟨b, o + t * 2, none⟩ = some (.string y.n) := by
            have hR := R3.out
            have e1 := (hR.cell (p := ⟨b, o + t * 2, none⟩) hl)
            rw [e1, ← HB.out.cell (p := ⟨b, o + t * 2, none⟩) hl]; exact c0
          have HW3 : Hid (w3.ownsRow w.heap.size 75 2 v' (O ++ [FI.mk s d]).length (flat fiL (O ++ [FI.mk s d]))) := by
            show World.ownsRow _ _ _ _ _ _ _
            rw [flat_snoc, List.length_append, HCN.out]
            exact hown'
          clear hown' hbb c0 c1
          go_wp2_with fail
          go_roundw
          case rel => exact ⟨t + 1, true, O ++ [FI.mk s d], by omega, by go_num, rfl, HN.out, HW3.out, R3.out⟩
          case measure => simp [intOf]; omega
        · -- above
          have HN : Hid (PutT ⟨s, d⟩ (L.take (t + 1)) true (O ++ [FI.mk s d] ++ [y])) := by show PutT _ _ _ _; rw [HTK.out]; exact putT_gt HP.out b0
          clear b0 b1
          go_wp2_with (first
            | (at_builtin; refine wpList_app_fi rfl _ _ rfl w.heap.size u7 cn (flat fiL O) rfl HW0.out ⟨s, d⟩ rfl (by omega) hsz ?_)
            | go_in)
          intro v' w3 hown' hbb
          have R3 : Hid (Below w.heap.size w w3) := hbb w HB.out
          have d0 : w3.cell? ⟨b, o + t * 2, none⟩ = some (.string y.n) := by
            rw [R3.out.cell (p := ⟨b, o + t * 2, none⟩) hl, ← HB.out.cell (p := ⟨b, o + t * 2, none⟩) hl]; exact c0
          have d1 : w3.cell? ⟨b, o + t * 2 + 1, none⟩ = some (.string y.d) := by
            rw [R3.out.cell (p := ⟨b, o + t * 2 + 1, none⟩) hl, ← HB.out.cell (p := ⟨b, o + t * 2 + 1, none⟩) hl]; exact c1
          have hl3 : b < w3.heap.size := Nat.lt_of_lt_of_le hl R3.out.size
          have hsz3 := R3.out.size
          have HW3 : Hid (w3.ownsRow w.heap.size 75 2 v' (cn + 1) (flat fiL (O ++ [FI.mk s d]))) := by
            show World.ownsRow _ _ _ _ _ _ _
            rw [flat_snoc]
            exact hown'
          clear hown' hbb c0 c1 hl2
          go_wp2_with (first
            | (at_builtin; refine wpList_app_fi rfl _ _ rfl w.heap.size v' (cn + 1) (flat fiL (O ++ [FI.mk s d])) rfl HW3.out y rfl (by omega) hsz3 ?_)
            | go_in)
          intro v'' w4 hown'' hbb
          have R4 : Hid (Below w.heap.size w w4) := hbb w R3.out
          have HW4 : Hid (w4.ownsRow w.heap.size 75 2 v'' (O ++ [FI.mk s d] ++ [y]).length (flat fiL (O ++ [FI.mk s d] ++ [y]))) := by
            show World.ownsRow _ _ _ _ _ _ _
            rw [flat_snoc, List.length_append, List.length_append, HCN.out]
            exact hown''
          clear hown'' hbb
          go_wp2_with fail
          go_roundw
          case rel => exact ⟨t + 1, true, O ++ [FI.mk s d] ++ [y], by omega, by go_num, rfl, HN.out, HW4.out, R4.out⟩
          case measure => simp [intOf]; omega
      · obtain ⟨g1, g2⟩ := putT_on HP.out (up_take HU.out HY.out)
        have HN : Hid (PutT ⟨s, d⟩ (L.take (t + 1)) true (O ++ [y])) := by show PutT _ _ _ _; rw [HTK.out]; exact g2
        have b3 : (y.n.toList == s.toList) = false := str_ne (fun e => bb_ne g1 (by rw [fiK, fiK, e]))
        clear g1 g2
        go_wp2_with (first
          | (at_builtin; refine wpList_app_fi rfl _ _ rfl w.heap.size u7 cn (flat fiL O) rfl HW0.out y rfl (by omega) hsz ?_)
          | go_in)
        intro v' w3 hown' hbb
        have R3 : Hid (Below w.heap.size w w3) := hbb w HB.out
        have HW3 : Hid (w3.ownsRow w.heap.size 75 2 v' (O ++ [y]).length (flat fiL (O ++ [y]))) := by
          show World.ownsRow _ _ _ _ _ _ _
          rw [flat_snoc, List.length_append, HCN.out]
          exact hown'
        clear hown' hbb
        go_wp2_with fail
        go_roundw
        case rel => exact ⟨t + 1, true, O ++ [y], by omega, by go_num, rfl, HN.out, HW3.out, R3.out⟩
        case measure => simp [intOf]; omega
    · have h1 : ¬ (t : Int) < (n : Int) := by omega
      obtain rfl : t = n := by omega
      have HTA : Hid (L.take t = L) := List.take_of_length_le (by rw [HL.out]; exact Nat.le_refl _)
      clear hbel
      cases bd
      · have HE : Hid (putK fiK ⟨s, d⟩ L = O ++ [FI.mk s d]) := by
          show _ = _
          rcases HP.out with ⟨_, h2, h3⟩ | ⟨h0, _⟩
          · rw [HTA.out] at h2 h3
            rw [putK_last h2, h3]
          · cases h0
        go_wp2_with (first
          | (at_builtin; refine wpList_app_fi rfl _ _ rfl w.heap.size u7 cn (flat fiL O) rfl HW0.out ⟨s, d⟩ rfl (by omega) hsz ?_)
          | go_in)
        intro v' w3 hown' hbb
        have R3 : Hid (Below w.heap.size w w3) := hbb w HB.out
        have HW3 : Hid (w3.ownsRow w.heap.size 75 2 v' (O ++ [FI.mk s d]).length (flat fiL (O ++ [FI.mk s d]))) := by
          show World.ownsRow _ _ _ _ _ _ _
          rw [flat_snoc, List.length_append, HCN.out]
          exact hown'
        clear hown' hbb
        go_wp2_with fail
        go_ret
        refine ⟨_, rfl, ?_, R3.out⟩
        rw [HE.out]
        exact HW3.out
      · have HE : Hid (putK fiK ⟨s, d⟩ L = O) := by
          show _ = _
          rcases HP.out with ⟨h0, _⟩ | ⟨_, _, h3⟩
          · cases h0
          · rw [HTA.out] at h3; exact h3.symm
        go_wp2_with fail
        go_ret
        refine ⟨_, rfl, ?_, HB.out⟩
        rw [HE.out]
        exact HW.out
end Go.Proofs.Ytanjlpgdmnapdaa
