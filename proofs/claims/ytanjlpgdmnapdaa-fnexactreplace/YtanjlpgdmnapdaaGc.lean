import Derived.Test.YtanjlpgdmnapdaaFiA
import Derived.OpenShut
import Derived.Deep.Slices
import Derived.ChangeSame
import Derived.Test.YtanjlpgdmnapdaaDpA
import Derived.Test.YtanjlpgdmnapdaaGg
namespace Go.Proofs.Ytanjlpgdmnapdaa
open Go.ChangeShapes Go.WideShapes Go.ChangeAt Go.RowKit Go.Joins
set_option linter.unusedSimpArgs false
set_option linter.unusedVariables false

theorem trod_str_fi {H : Type} {enc : TypeId × Value → H} {P : Program} {w : World} {base : Nat} {spare : Nat → Bool} {held : Bool} {t : TypeId} {f0 f1 : Field} {fuel : Nat} {cs : List Value} {x : DataW H × List MemPlace} (ht : P.underlying t = some (.struct #[f0, f1])) (h : DataW.trod enc P w base spare held fuel t cs = some x) :
    ∃ y0 y1 n, DataW.trod enc P w base spare held n f0.type ((cs.drop f0.offset).take (P.cellsOf f0.type)) = some y0 ∧
      DataW.trod enc P w base spare held n f1.type ((cs.drop f1.offset).take (P.cellsOf f1.type)) = some y1 := by
  obtain ⟨xs, n, _, rfl, hl, hlen, hf⟩ := DataW.trod_struct ht h
  match xs, hlen with
  | [y0, y1], _ => exact ⟨y0, y1, n, by simpa using hf 0 f0 rfl, by simpa using hf 1 f1 rfl⟩
theorem cellsFi : Try.prog.cellsOf 132 = 2 := by kernel_rfl
/-- A row that came in. -/
theorem open_fi {H : Type} {enc : TypeId × Value → H} {W : World} {base : Nat} {sp : Nat → Bool} {held : Bool} {fuel : Nat} {c : Value} {y : DataW H × List MemPlace}
    (hf : DataW.trod enc Try.prog W base sp held fuel 47 [c] = some y) :
    ∃ A L cap, c = .slice A L.length cap ∧ FiRow W A L ∧ (∀ x ∈ L, fiOk x) ∧ (A = none → cap = 0) := by
  rcases Go.Deep.open_slice Try.underlying47 hf with ⟨hcs, _⟩ | ⟨a, len, cap, m, n, D, Pl, hcs, _, hl, hm, hmm, _, hx⟩
  · simp at hcs
    subst hcs
    exact ⟨none, [], 0, rfl, ⟨Nat.zero_le _, fun i x h => by simp at h⟩, fun x hx => by simp at hx, fun _ => rfl⟩
  · simp at hcs
    subst hcs
    rw [cellsFi] at hx
    have hlm : len ≤ m := by rw [hmm]; split <;> omega
    have each : ∀ i, i < len → ∃ q : FI, ∃ b o, some a = some (⟨b, o, none⟩ : Addr) ∧ b < W.heap.size ∧ (∀ j v, (fiL q)[j]? = some v → W.cell? ⟨b, o + i * 2 + j, none⟩ = some v) ∧ fiOk q := by
      intro i hi
      obtain ⟨cs', h1, h2⟩ := hx i (by omega)
      obtain ⟨_, hlen, hcell⟩ := World.cells?_some h1
      have k1 : Try.prog.cellsOf 2 = 1 := by kernel_rfl
      have ks : Try.prog.cellsOf 9 = 1 := by kernel_rfl
      match cs', hlen with
      | [v0, v1], _ =>
        obtain ⟨y0, y1, n1, g0, g1⟩ := trod_str_fi Try.underlying132 h2
        simp only [k1, ks, List.drop_zero, List.take_succ_cons, List.take_zero, List.drop_succ_cons] at g0 g1
        obtain ⟨x0, e0, _, w0⟩ := DataW.trod_string Try.underlying9 g0
        obtain ⟨x1, e1, _, w1⟩ := DataW.trod_string Try.underlying9 g1
        simp at e0 e1
        subst e0 e1
        have d0 := hcell 0 (by omega)
        have d1 := hcell 1 (by omega)
        obtain ⟨b, off, spot⟩ := a
        have hspot : spot = none := by
          obtain ⟨cs0, h01, _⟩ := hx 0 (by omega)
          obtain ⟨_, hlen0, hcell0⟩ := World.cells?_some h01
          have hc0 := hcell0 0 (by omega)
          rw [List.getElem?_eq_getElem (by omega)] at hc0
          have hc1 := World.cell?_spot hc0
          simpa [Addr.add] using hc1
        subst hspot
        simp only [Go.WideShapes.add_plain] at d0 d1
        refine ⟨⟨x0, x1⟩, b, off, rfl, World.block_lt_of_cell? W ⟨b, off + i * 2 + 0, none⟩ d0, ?_, w0, w1⟩
        intro j v hj
        match j, hj with
        | 0, hj => simp [fiL] at hj; subst hj; exact d0
        | 1, hj => simp [fiL] at hj; subst hj; exact d1
        | j + 2, hj => simp [fiL] at hj
    haveI : Inhabited FI := ⟨⟨⟨#[]⟩, ⟨#[]⟩⟩⟩
    obtain ⟨q, hq⟩ := Go.Deep.choose_lt each
    refine ⟨some a, (List.range len).map q, cap, by simp, ⟨by simp; exact Nat.le_trans hl hm, fun i x hx => ?_⟩, fun x hx => ?_, fun e => by cases e⟩
    · rw [List.getElem?_map] at hx
      obtain ⟨j, hj, rfl⟩ := Option.map_eq_some_iff.1 hx
      have hlt := (List.getElem?_eq_some_iff.1 hj).1
      have e : j = i := by
        rw [List.getElem?_range (by simpa using hlt)] at hj
        cases hj; rfl
      subst e
      obtain ⟨b, o, e1, e2, e3, _⟩ := hq j (by simpa using hlt)
      exact ⟨b, o, e1, e2, e3⟩
    · obtain ⟨j, hj, rfl⟩ := List.mem_map.1 hx
      obtain ⟨b, o, e1, e2, e3, e4⟩ := hq j (by simpa using hj)
      exact e4
end Go.Proofs.Ytanjlpgdmnapdaa
namespace Go.Proofs.Ytanjlpgdmnapdaa
open Go.ChangeShapes Go.WideShapes Go.ChangeAt Go.RowKit Go.Joins
set_option linter.unusedSimpArgs false
set_option linter.unusedVariables false

theorem trod_str_dp {H : Type} {enc : TypeId × Value → H} {P : Program} {w : World} {base : Nat} {spare : Nat → Bool} {held : Bool} {t : TypeId} {f0 f1 f2 f3 : Field} {fuel : Nat} {cs : List Value} {x : DataW H × List MemPlace} (ht : P.underlying t = some (.struct #[f0, f1, f2, f3])) (h : DataW.trod enc P w base spare held fuel t cs = some x) :
    ∃ y0 y1 y2 y3 n, DataW.trod enc P w base spare held n f0.type ((cs.drop f0.offset).take (P.cellsOf f0.type)) = some y0 ∧
      DataW.trod enc P w base spare held n f1.type ((cs.drop f1.offset).take (P.cellsOf f1.type)) = some y1 ∧
      DataW.trod enc P w base spare held n f2.type ((cs.drop f2.offset).take (P.cellsOf f2.type)) = some y2 ∧
      DataW.trod enc P w base spare held n f3.type ((cs.drop f3.offset).take (P.cellsOf f3.type)) = some y3 := by
  obtain ⟨xs, n, _, rfl, hl, hlen, hf⟩ := DataW.trod_struct ht h
  match xs, hlen with
  | [y0, y1, y2, y3], _ => exact ⟨y0, y1, y2, y3, n, by simpa using hf 0 f0 rfl, by simpa using hf 1 f1 rfl, by simpa using hf 2 f2 rfl, by simpa using hf 3 f3 rfl⟩
theorem cellsDp : Try.prog.cellsOf 55 = 4 := by kernel_rfl
/-- A row that came in. -/
theorem open_dp {H : Type} {enc : TypeId × Value → H} {W : World} {base : Nat} {sp : Nat → Bool} {held : Bool} {fuel : Nat} {c : Value} {y : DataW H × List MemPlace}
    (hf : DataW.trod enc Try.prog W base sp held fuel 48 [c] = some y) :
    ∃ A L cap, c = .slice A L.length cap ∧ DpRow W A L ∧ (∀ x ∈ L, dpOk x) ∧ (A = none → cap = 0) := by
  rcases Go.Deep.open_slice Try.underlying48 hf with ⟨hcs, _⟩ | ⟨a, len, cap, m, n, D, Pl, hcs, _, hl, hm, hmm, _, hx⟩
  · simp at hcs
    subst hcs
    exact ⟨none, [], 0, rfl, ⟨Nat.zero_le _, fun i x h => by simp at h⟩, fun x hx => by simp at hx, fun _ => rfl⟩
  · simp at hcs
    subst hcs
    rw [cellsDp] at hx
    have hlm : len ≤ m := by rw [hmm]; split <;> omega
    have each : ∀ i, i < len → ∃ q : DP, ∃ b o, some a = some (⟨b, o, none⟩ : Addr) ∧ b < W.heap.size ∧ (∀ j v, (dpL q)[j]? = some v → W.cell? ⟨b, o + i * 4 + j, none⟩ = some v) ∧ dpOk q := by
      intro i hi
      obtain ⟨cs', h1, h2⟩ := hx i (by omega)
      obtain ⟨_, hlen, hcell⟩ := World.cells?_some h1
      have k1 : Try.prog.cellsOf 2 = 1 := by kernel_rfl
      have ks : Try.prog.cellsOf 9 = 1 := by kernel_rfl
      match cs', hlen with
      | [v0, v1, v2, v3], _ =>
        obtain ⟨y0, y1, y2, y3, n1, g0, g1, g2, g3⟩ := trod_str_dp Try.underlying55 h2
        simp only [k1, ks, List.drop_zero, List.take_succ_cons, List.take_zero, List.drop_succ_cons] at g0 g1 g2 g3
        obtain ⟨x0, e0, _, w0⟩ := DataW.trod_int Try.underlying2 g0
        obtain ⟨x1, e1, _, w1⟩ := DataW.trod_string Try.underlying9 g1
        obtain ⟨x2, e2, _, w2⟩ := DataW.trod_string Try.underlying9 g2
        obtain ⟨x3, e3, _, w3⟩ := DataW.trod_string Try.underlying9 g3
        simp at e0 e1 e2 e3
        subst e0 e1 e2 e3
        have d0 := hcell 0 (by omega)
        have d1 := hcell 1 (by omega)
        have d2 := hcell 2 (by omega)
        have d3 := hcell 3 (by omega)
        obtain ⟨b, off, spot⟩ := a
        have hspot : spot = none := by
          obtain ⟨cs0, h01, _⟩ := hx 0 (by omega)
          obtain ⟨_, hlen0, hcell0⟩ := World.cells?_some h01
          have hc0 := hcell0 0 (by omega)
          rw [List.getElem?_eq_getElem (by omega)] at hc0
          have hc1 := World.cell?_spot hc0
          simpa [Addr.add] using hc1
        subst hspot
        simp only [Go.WideShapes.add_plain] at d0 d1 d2 d3
        refine ⟨⟨x0, x1, x2, x3⟩, b, off, rfl, World.block_lt_of_cell? W ⟨b, off + i * 4 + 0, none⟩ d0, ?_, w1, w2, w3⟩
        intro j v hj
        match j, hj with
        | 0, hj => simp [dpL] at hj; subst hj; exact d0
        | 1, hj => simp [dpL] at hj; subst hj; exact d1
        | 2, hj => simp [dpL] at hj; subst hj; exact d2
        | 3, hj => simp [dpL] at hj; subst hj; exact d3
        | j + 4, hj => simp [dpL] at hj
    haveI : Inhabited DP := ⟨⟨0, ⟨#[]⟩, ⟨#[]⟩, ⟨#[]⟩⟩⟩
    obtain ⟨q, hq⟩ := Go.Deep.choose_lt each
    refine ⟨some a, (List.range len).map q, cap, by simp, ⟨by simp; exact Nat.le_trans hl hm, fun i x hx => ?_⟩, fun x hx => ?_, fun e => by cases e⟩
    · rw [List.getElem?_map] at hx
      obtain ⟨j, hj, rfl⟩ := Option.map_eq_some_iff.1 hx
      have hlt := (List.getElem?_eq_some_iff.1 hj).1
      have e : j = i := by
        rw [List.getElem?_range (by simpa using hlt)] at hj
        cases hj; rfl
      subst e
      obtain ⟨b, o, e1, e2, e3, _⟩ := hq j (by simpa using hlt)
      exact ⟨b, o, e1, e2, e3⟩
    · obtain ⟨j, hj, rfl⟩ := List.mem_map.1 hx
      obtain ⟨b, o, e1, e2, e3, e4⟩ := hq j (by simpa using hj)
      exact e4
end Go.Proofs.Ytanjlpgdmnapdaa
namespace Go.Proofs.Ytanjlpgdmnapdaa
open Go.ChangeShapes Go.WideShapes Go.ChangeAt Go.RowKit Go.Joins
set_option linter.unusedSimpArgs false
set_option linter.unusedVariables false

set_option maxRecDepth 100000 in
/-- A disk that came in. -/
theorem open_disk {H : Type} {enc : TypeId × Value → H} {W : World} {r : Reach} {b0 base : Nat} {spare : Nat → Bool} {held : Bool} {v : Value} {d : DataW H} {p : List MemPlace}
    (hv : Value.okWide Try.prog W r b0 50 v) (h : DataW.Trod enc Try.prog W base spare held 50 v d p) :
    ∃ dk, DkRow W v dk ∧ ((∀ x ∈ dk.live, fiOk x) ∧ (∀ x ∈ dk.safe, fiOk x) ∧ (∀ x ∈ dk.ops, dpOk x)) := by
  obtain ⟨c0, c1, c2, y0, y1, y2, m, rfl, rfl, rfl, hy0, hy1, hy2⟩ := open_agg3 Try.underlying50 (by kernel_rfl) (by kernel_rfl) hv h
  obtain ⟨A1, L1, p1, rfl, r1, o1, z1⟩ := open_fi hy0
  obtain ⟨A2, L2, p2, rfl, r2, o2, z2⟩ := open_fi hy1
  obtain ⟨A3, L3, p3, rfl, r3, o3, z3⟩ := open_dp hy2
  exact ⟨⟨L1, L2, L3⟩, ⟨A1, p1, A2, p2, A3, p3, rfl, r1, r2, r3, z1, z2, z3⟩, o1, o2, o3⟩
end Go.Proofs.Ytanjlpgdmnapdaa
