import Derived.Test.YtaijbonllaeilaaChA
import Derived.OpenShut
import Derived.Deep.Slices
import Derived.ChangeSame
namespace Go.Proofs.Ytaijbonllaeilaa
open Go.ChangeShapes Go.WideShapes Go.ChangeAt Go.RowKit Go.Joins

theorem trod_struct3' {H : Type} {enc : TypeId × Value → H} {P : Program} {w : World} {base : Nat} {spare : Nat → Bool} {held : Bool} {t : TypeId} {f0 f1 f2 : Field} {fuel : Nat} {cs : List Value} {x : DataW H × List MemPlace} (ht : P.underlying t = some (.struct #[f0, f1, f2])) (h : DataW.trod enc P w base spare held fuel t cs = some x) :
    ∃ y0 y1 y2 n, DataW.trod enc P w base spare held n f0.type ((cs.drop f0.offset).take (P.cellsOf f0.type)) = some y0 ∧
      DataW.trod enc P w base spare held n f1.type ((cs.drop f1.offset).take (P.cellsOf f1.type)) = some y1 ∧ DataW.trod enc P w base spare held n f2.type ((cs.drop f2.offset).take (P.cellsOf f2.type)) = some y2 := by
  obtain ⟨xs, n, _, rfl, hl, hlen, hf⟩ := DataW.trod_struct ht h
  match xs, hlen with
  | [y0, y1, y2], _ => exact ⟨y0, y1, y2, n, by simpa using hf 0 f0 rfl, by simpa using hf 1 f1 rfl, by simpa using hf 2 f2 rfl⟩

theorem cellsCh : Try.prog.cellsOf 34 = 4 := by kernel_rfl

/-- A row of changes that came in. -/
theorem open_chs {H : Type} {enc : TypeId × Value → H} {W : World} {r : Reach} {b0 base : Nat} {sp : Nat → Bool} {held : Bool} {v : Value} {d : DataW H} {p : List MemPlace}
    (hv : Value.okWide Try.prog W r b0 22 v) (h : DataW.Trod enc Try.prog W base sp held 22 v d p) :
    ∃ A len cap D, v = .slice A len cap ∧ ChRow W A len D := by
  obtain ⟨a0, len, cap, rfl⟩ := okWide_slice Try.underlying22 hv
  obtain ⟨fuel, hf⟩ := h
  rcases Go.Deep.open_slice Try.underlying22 hf with ⟨hcs, _⟩ | ⟨a, len', cap', m, n, D, Pl, hcs, _, hl, hm, hmm, _, hx⟩
  · simp [Value.cells] at hcs
    obtain ⟨rfl, rfl, rfl⟩ := hcs
    exact ⟨none, 0, 0, fun _ => ⟨0, 0, ⟨#[]⟩, ⟨#[]⟩⟩, rfl, Nat.zero_le _, fun i hi => absurd hi (Nat.not_lt_zero _)⟩
  · simp [Value.cells] at hcs
    obtain ⟨rfl, rfl, rfl⟩ := hcs
    rw [cellsCh] at hx
    have hlm : len ≤ m := by rw [hmm]; split <;> omega
    have each : ∀ i, i < len → ∃ q : CH, ∃ b o, some a = some (⟨b, o, none⟩ : Addr) ∧ b < W.heap.size ∧ W.cell? ⟨b, o + i * 4, none⟩ = some (.int .i64 q.c) ∧ W.cell? ⟨b, o + i * 4 + 1, none⟩ = some (.int .i64 q.r) ∧
        W.cell? ⟨b, o + i * 4 + 2, none⟩ = some (.string q.f) ∧ W.cell? ⟨b, o + i * 4 + 3, none⟩ = some (.string q.t) ∧ q.f.size ≤ maxLen ∧ q.t.size ≤ maxLen := by
      intro i hi
      obtain ⟨cs', h1, h2⟩ := hx i (by omega)
      obtain ⟨_, hlen, hcell⟩ := World.cells?_some h1
      have kr : Try.prog.cellsOf 32 = 2 := by kernel_rfl
      have k1 : Try.prog.cellsOf 2 = 1 := by kernel_rfl
      have ks : Try.prog.cellsOf 9 = 1 := by kernel_rfl
      match cs', hlen with
      | [v0, v1, v2, v3], _ =>
        obtain ⟨y0, y1, y2, n1, g0, g1, g2⟩ := trod_struct3' Try.underlying34 h2
        simp only [kr, ks, List.drop_zero, List.take_succ_cons, List.take_zero, List.drop_succ_cons] at g0 g1 g2
        obtain ⟨z0, z1, n2, _, _, q0, q1⟩ := trod_struct2 Try.underlying32 g0
        simp only [k1, List.drop_zero, List.take_succ_cons, List.take_zero, List.drop_succ_cons] at q0 q1
        obtain ⟨x0, e0, _, _⟩ := DataW.trod_int Try.underlying2 q0
        obtain ⟨x1, e1, _, _⟩ := DataW.trod_int Try.underlying2 q1
        obtain ⟨s, e2, _, ws⟩ := DataW.trod_string Try.underlying9 g1
        obtain ⟨s', e3, _, ws'⟩ := DataW.trod_string Try.underlying9 g2
        simp at e0 e1 e2 e3
        subst e0 e1 e2 e3
        have d0 := hcell 0 (by omega)
        have d1 := hcell 1 (by omega)
        have d2 := hcell 2 (by omega)
        have d3 := hcell 3 (by omega)
        obtain ⟨b, off, spot⟩ := a
        have hspot : spot = none := by
          obtain ⟨cs0, h01, _⟩ := hx 0 (by omega)
          obtain ⟨_, hlen0, hcell0⟩ := World.cells?_some h01
          have hc0 := hcell0 0 (by omega)
          rw [List.getElem?_eq_getElem (by omega)] at hc0
          have hc1 := World.cell?_spot hc0
          simpa [Addr.add] using hc1
        subst hspot
        simp only [Go.WideShapes.add_plain] at d0 d1 d2 d3
        refine ⟨⟨x0, x1, s, s'⟩, b, off, rfl, World.block_lt_of_cell? W ⟨b, off + i * 4 + 0, none⟩ d0, d0, d1, d2, d3, ws, ws'⟩
    haveI : Inhabited CH := ⟨⟨0, 0, ⟨#[]⟩, ⟨#[]⟩⟩⟩
    obtain ⟨q, hq⟩ := Go.Deep.choose_lt each
    exact ⟨some a, len, cap, q, rfl, Nat.le_trans hl hm, hq⟩
end Go.Proofs.Ytaijbonllaeilaa
