import Derived.Test.YtanjlpgdmnapdaaCrsB
import Derived.Test.YtanjlpgdmnapdaaCrsC
namespace Go.Proofs.Ytanjlpgdmnapdaa
open Go.RowKit Go.Maps
set_option linter.unusedSimpArgs false
set_option linter.unusedVariables false

def MarkedC (ys : List Value) (k : Int) (m : Nat) : Prop := ∀ j, j < m → ys[j]? = some (.int .i64 (k + (j : Nat)))
/-- What is marked in a row of numbers. -/
theorem mark_oneC {W : World} {B g n cap t : Nat} {ys : List Value} {k : Int} (h : W.ownsRow B 2 1 (.slice (some ⟨g, 0, none⟩) n cap) n ys) (ht : t < n) (hy : MarkedC ys k t) :
    ∃ zs, (W.setCell ⟨g, t, none⟩ (.int .i64 (k + (t : Int)))).ownsRow B 2 1 (.slice (some ⟨g, 0, none⟩) n cap) n zs ∧ MarkedC zs k (t + 1) ∧ W.grownBy (W.setCell ⟨g, t, none⟩ (.int .i64 (k + (t : Int)))) (some g) := by
  have hl := h.1
  refine ⟨_, (h.stored t (.int .i64 (k + (t : Int)))).1, fun j hj => ?_, (h.stored t (.int .i64 (k + (t : Int)))).2⟩
  by_cases e : j = t
  · subst e; rw [List.getElem?_set_self (by omega)]
  · rw [List.getElem?_set_ne (by omega)]; exact hy j (by omega)

set_option maxHeartbeats 2000000 in
theorem laws_markInt64SW {B n : Nat} {v : Value} {xs : List Value} (k : Int) (w : World) (h : w.ownsRow B 2 1 v n xs) (hn : n ≤ 1048576) (h0 : 0 ≤ k) (h1 : k ≤ 1099511627776000) :
    Calls Try.prog 37 #[v, .int .i64 k] w fun e w' => e = .returned (.int .i64 (k + (n : Int))) ∧ (∃ ys, w'.ownsRow B 2 1 v n ys ∧ MarkedC ys k n) ∧ w.grownBy w' v.ownBlock := by
  have HO : Hid (w.ownsRow B 2 1 v n xs) := h
  obtain ⟨A, cap, rfl, _, _⟩ := own_shape h
  clear h
  go_enter Try.func37, Try.ntmps37
  go_wp2_with fail
  go_loopw [1, 5] (fun q i wr => ∃ t : Nat, t ≤ n ∧ i = .int .i64 t ∧ q = .int .i64 (k + (t : Int)) ∧ (∃ ys, wr.ownsRow B 2 1 (.slice A n cap) n ys ∧ MarkedC ys k t) ∧ w.grownBy wr (Value.slice A n cap).ownBlock) (fun _ i _ => n - (intOf i).toNat)
  case atStart => exact ⟨0, Nat.zero_le _, rfl, by simp, ⟨xs, HO.out, fun j hj => by omega⟩, World.grownBy.refl _ _⟩
  case round =>
    clear HO
    obtain ⟨t, ht, rfl, rfl, ⟨ys, hown, hys⟩, hgr⟩ := hrel
    by_cases hlt : t < n
    · obtain ⟨A', cap', e, _, hc⟩ := own_shape hown
      cases e
      have hl := hown.1
      obtain ⟨g, rfl, _, hg, d0, f0⟩ := hc t (by omega)
      obtain ⟨z, hz⟩ : ∃ z, ys[t]? = some z := ⟨_, List.getElem?_eq_getElem (by omega)⟩
      rw [hz] at d0
      clear hz hc hl
      have HT : Hid (∃ zs, (wr.setCell ⟨g, t, none⟩ (.int .i64 (k + (t : Int)))).ownsRow B 2 1 (.slice (some ⟨g, 0, none⟩) n cap) n zs ∧ MarkedC zs k (t + 1) ∧ wr.grownBy (wr.setCell ⟨g, t, none⟩ (.int .i64 (k + (t : Int)))) (some g)) := mark_oneC hown hlt hys
      have HG : Hid (w.grownBy wr (some g)) := hgr
      clear hgr hown hys
      have q0 : (0 : Int) ≤ (t : Int) := by omega
      have q1 : (t : Int) < (n : Int) := by omega
      go_wp2_with fail
      all_goals
        go_roundw
        case rel =>
          obtain ⟨zs, z1, z2, z3⟩ := HT.out
          exact ⟨t + 1, by omega, by simp, by first | rfl | (congr 1; omega), ⟨zs, z1, z2⟩, grown_trans HG.out z3⟩
        case measure => simp [intOf]; omega
    · have h1 : ¬ (t : Int) < (n : Int) := by omega
      obtain rfl : t = n := by omega
      go_wp2_with fail
      go_ret
      exact ⟨rfl, ⟨ys, hown, hys⟩, hgr⟩


theorem laws_markInt64SC {B n : Nat} {v : Value} {xs : List Value} (k : Int) (w : World) (h : w.ownsRow B 2 1 v n xs) (hn : n ≤ 1048576) (h0 : 0 ≤ k) (h1 : k ≤ 1099511627776000) :
    Calls Try.prog 37 #[v, .int .i64 k] w fun e w' => e = .returned (.int .i64 (k + (n : Int))) ∧ w.grownBy w' v.ownBlock :=
  (laws_markInt64SW k w h hn h0 h1).mono fun e w' h => ⟨h.1, h.2.2⟩
theorem wf_le {t : Int} (h : (Lit.int .i64 t).wf = true) : t ≤ 9223372036854775807 := by
  have h2 : IntKind.i64.min ≤ t ∧ t ≤ 9223372036854775807 := by simpa [Lit.wf] using h
  exact h2.2
theorem int_of_ownK {W : World} {B n : Nat} {e : TypeId} {A : Option Addr} {cap : Nat} {l : List Int} (hn : l.length = n) (h : W.ownsRow B e 1 (.slice A n cap) n (l.map (Value.int .i64))) : IntRow W A l := by
  subst hn; exact int_of_own h
theorem eqI_below {P Q : Prop} (h : P ∧ Q) : P ∧ Q := h
theorem dk_ne_int {w : World} {B B' n : Nat} {v x : Value} {d : DK} {xs : List Value} (h : DkOwn w B v d) (hx : w.ownsRow B' 2 1 x n xs) : ∀ y ∈ blks v, x.ownBlock = none ∨ x.ownBlock ≠ y := by
  obtain ⟨v1, v2, v3, rfl, h1, h2, h3, _⟩ := h
  intro y hy
  simp only [blks, List.map_cons, List.map_nil, List.mem_cons, List.not_mem_nil, or_false] at hy
  rcases hy with rfl | rfl | rfl
  · exact own_ne_tyG hx h1 (by decide)
  · exact own_ne_tyG hx h2 (by decide)
  · exact own_ne_tyG hx h3 (by decide)
theorem dk_kept_int {w w' : World} {B B' n : Nat} {v x : Value} {d : DK} {xs : List Value} (h : DkOwn w B v d) (hx : w.ownsRow B' 2 1 x n xs) (g : w.grownBy w' x.ownBlock) : DkOwn w' B v d := by
  obtain ⟨v1, v2, v3, e, h1, h2, h3, h4⟩ := h
  exact ⟨v1, v2, v3, e, h1.kept g (own_ne_tyG h1 hx (by decide)), h2.kept g (own_ne_tyG h2 hx (by decide)), h3.kept g (own_ne_tyG h3 hx (by decide)), h4⟩
end Go.Proofs.Ytanjlpgdmnapdaa
