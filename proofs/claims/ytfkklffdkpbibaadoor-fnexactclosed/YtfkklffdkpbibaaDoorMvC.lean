import Derived.Test.YtfkklffdkpbibaaDoorMvB
import Derived.Laws.AppendOwnNone
namespace Go.Proofs.YtfkklffdkpbibaaDoor
open Go.RowKit
set_option linter.unusedSimpArgs false
set_option linter.unusedVariables false

theorem cellB {w W : World} {p : Nat} {v : Value} (hb : Below w.heap.size w W) (hp : p < w.heap.size) (c : w.cell? ⟨p, 0, none⟩ = some v) : W.cell? ⟨p, 0, none⟩ = some v := (hb.cell (p := ⟨p, 0, none⟩) hp).trans c
theorem ltB {w W : World} {p : Nat} (hb : Below w.heap.size w W) (hp : p < w.heap.size) : p < W.heap.size := Nat.lt_of_lt_of_le hp hb.size
theorem impl_AreaOk_is (a b c d : Int) (t : Bool) (w : World) (h : areaOkB a b c d = t) : Calls Tryd.prog 66 #[.agg #[.int .i64 a, .int .i64 b, .int .i64 c, .int .i64 d]] w fun e w' =>
    e = .returned (.bool t) ∧ Below w.heap.size w w' := (impl_AreaOk a b c d w).mono fun _ _ g => ⟨by rw [g.1, h], g.2⟩

/-- The kids of a node, appended onto a row that is empty. -/
theorem app_kids {ops : Array Oper} {rest : List Oper} {o : Oper} {a : Act} {Q : Exit → Act → World → Prop} (w : World) (hgd : o.guard = none) (s x : Operand)
    (ho : o.op = .call { callee := .builtin .append, args := #[s, x], argTypes := #[44, 44] }) (v : Value) (hs : a.eval s = v) (base : Nat) (hb : base ≤ w.heap.size) (hown : w.ownsRow base 2 1 v 0 [])
    {KA : Option Addr} {kc : Nat} {l : List Int} (hx : a.eval x = .slice KA l.length kc) (h0 : KA = none → kc = 0) (hi : IntRow w KA l) (hn : l.length ≤ 1048576)
    (h : ∀ KB kb w', w'.ownsRow base 2 1 (.slice KB l.length kb) l.length (l.map (Value.int .i64)) → w.grownBy w' v.ownBlock → wpList Tryd.prog ops Q rest (a.put o.dst (.slice KB l.length kb)) w') : wpList Tryd.prog ops Q (o :: rest) a w := by
  obtain ⟨i0, hi0, hz0, hz1, hz2⟩ := info_parts infoInt
  cases KA with
  | none =>
    have hk := h0 rfl
    subst hk
    have hl : l = [] := by
      cases l with
      | nil => rfl
      | cons y ys => obtain ⟨b, o', e, _⟩ := hi.2 0 (by simp); cases e
    subst hl
    obtain ⟨A', cap', rfl, _, _⟩ := own_shape hown
    exact wpList_append_own_none hgd s x 44 ho base 2 i0 1 Tryd.underlying44 hi0 _ 0 [] hs hown hx (h _ _ w hown (World.grownBy.refl _ _))
  | some ad =>
    refine wpList_append_own w hgd s x 44 ho base 2 i0 (.int .i64 0) 1 8 Tryd.underlying44 hi0 hz0 hz1 hz2 rfl (by decide) v 0 [] hs hown ad l.length kc (l.map (Value.int .i64)) hx (by simp) ?_ ?_ ?_ ?_ hb ?_
    · intro j u hj
      have hlt : j < l.length := by
        have := (List.getElem?_eq_some_iff.1 hj).1
        simpa using this
      obtain ⟨b, o', e, _, c⟩ := hi.2 j hlt
      cases e
      rw [map_at l j hlt] at hj
      cases hj
      have ea : (⟨b, o', none⟩ : Addr).add j = ⟨b, o' + j, none⟩ := by
        unfold Addr.add
        split
        · rename_i hj0; subst hj0; rfl
        · rfl
      rw [ea]
      exact c
    · intro u hu
      obtain ⟨z, _, rfl⟩ := List.mem_map.1 hu
      rfl
    · unfold maxLen; omega
    · omega
    · intro v' w' ho' hg' _
      rw [Nat.zero_add, List.nil_append] at ho'
      obtain ⟨KB, kb, rfl, _, _⟩ := own_shape ho'
      exact h KB kb w' ho' hg'

set_option maxHeartbeats 4000000 in
theorem shiftedNode_other (k : Int) (o ck cn : Int) (cs : ByteArray) (ac ar : Int) (af ag : Bool) (bc br : Int) (bf bg : Bool) {KA : Option Addr} {kc : Nat} {l : List Int} (fv : Value) (w : World) (h2 : k ≠ 2) (h3 : k ≠ 3) (h0 : KA = none → kc = 0) (hi : IntRow w KA l) (hn : l.length ≤ 1048576) :
    Calls Tryd.prog 75 #[.agg #[.int .i64 k, .int .i64 o, .int .i64 ck, .int .i64 cn, .string cs, .int .i64 ac, .int .i64 ar, .bool af, .bool ag, .int .i64 bc, .int .i64 br, .bool bf, .bool bg, .slice KA l.length kc], fv] w fun z w' => ∃ KB kb, z = .returned (.agg #[.int .i64 k, .int .i64 o, .int .i64 ck, .int .i64 cn, .string cs, .int .i64 ac, .int .i64 ar, .bool af, .bool ag, .int .i64 bc, .int .i64 br, .bool bf, .bool bg, .slice KB l.length kb]) ∧ w'.ownsRow w.heap.size 2 1 (.slice KB l.length kb) l.length (l.map (Value.int .i64)) ∧ Below w.heap.size w w' := by
  have HI : Hid (IntRow w KA l) := hi
  have HN : Hid (l.length ≤ 1048576) := hn
  have HK : Hid (KA = none → kc = 0) := h0
  clear hi hn h0
  have e2 : (k == 2) = false := by simpa using h2
  have e3 : (k == 3) = false := by simpa using h3
  go_enter Tryd.func75, Tryd.ntmps75
  go_wp2_with (at_builtin; refine app_kids _ rfl _ _ rfl (.slice none 0 0) rfl (w.heap.size + 2) ?kb ?kn rfl HK.out ?ki HN.out ?_)
  case kb => go_size
  case kn => exact ⟨rfl, Or.inl ⟨rfl, rfl⟩⟩
  case ki => exact HI.out.below (by go_grown)
  intro KB kb w9 hown hgrow
  have HO : Hid (w9.ownsRow (w.heap.size + 2) 2 1 (.slice KB l.length kb) l.length (l.map (Value.int .i64))) := hown
  have hb := (Below.refl _ _).grown hgrow (Nat.le_refl _) (fun k hk => by cases hk)
  obtain ⟨hc9, hf9, hC9, hF9, hz9, hk9, m0, m1⟩ := bk2 (w := w) (by go_grown) (by go_size) hb
  clear hgrow hb hown
  go_wp2_with fail
  refine bodyPost_ret (v := .agg #[.int .i64 k, .int .i64 o, .int .i64 ck, .int .i64 cn, .string cs, .int .i64 ac, .int .i64 ar, .bool af, .bool ag, .int .i64 bc, .int .i64 br, .bool bf, .bool bg, .slice KB l.length kb]) ?_ rfl ⟨_, _, rfl, ?_, by go_grown⟩
  · simp (maxDischargeDepth := 9) [results, Tryd.results75, go_sem, *]
  · refine own_mono (B := w.heap.size + 2) ?_ (by omega)
    repeat (refine ownsRow_setCell_below ?_ (by simp) _)
    exact HO.out

end Go.Proofs.YtfkklffdkpbibaaDoor
