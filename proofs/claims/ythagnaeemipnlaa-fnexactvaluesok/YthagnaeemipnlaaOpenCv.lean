import Derived.Test.YthagnaeemipnlaaCvB
import Derived.OpenShut
import Derived.Deep.Slices
import Derived.ChangeSame
namespace Go.Proofs.Ythagnaeemipnlaa
open Go.ChangeShapes Go.WideShapes Go.ChangeAt Go.RowKit Go.Joins

theorem trod_struct3' {H : Type} {enc : TypeId × Value → H} {P : Program} {w : World} {base : Nat} {spare : Nat → Bool} {held : Bool} {t : TypeId} {f0 f1 f2 : Field} {fuel : Nat} {cs : List Value} {x : DataW H × List MemPlace} (ht : P.underlying t = some (.struct #[f0, f1, f2])) (h : DataW.trod enc P w base spare held fuel t cs = some x) :
    ∃ y0 y1 y2 n, DataW.trod enc P w base spare held n f0.type ((cs.drop f0.offset).take (P.cellsOf f0.type)) = some y0 ∧
      DataW.trod enc P w base spare held n f1.type ((cs.drop f1.offset).take (P.cellsOf f1.type)) = some y1 ∧ DataW.trod enc P w base spare held n f2.type ((cs.drop f2.offset).take (P.cellsOf f2.type)) = some y2 := by
  obtain ⟨xs, n, _, rfl, hl, hlen, hf⟩ := DataW.trod_struct ht h
  match xs, hlen with
  | [y0, y1, y2], _ => exact ⟨y0, y1, y2, n, by simpa using hf 0 f0 rfl, by simpa using hf 1 f1 rfl, by simpa using hf 2 f2 rfl⟩

theorem cellsCv : Try.prog.cellsOf 62 = 5 := by kernel_rfl

/-- A row of values that came in. -/
theorem open_cvs {H : Type} {enc : TypeId × Value → H} {W : World} {r : Reach} {b0 base : Nat} {sp : Nat → Bool} {held : Bool} {v : Value} {d : DataW H} {p : List MemPlace}
    (hv : Value.okWide Try.prog W r b0 34 v) (h : DataW.Trod enc Try.prog W base sp held 34 v d p) :
    ∃ A len cap C R K V S, v = .slice A len cap ∧ CvRow W A len C R K V S := by
  obtain ⟨a0, len, cap, rfl⟩ := okWide_slice Try.underlying34 hv
  obtain ⟨fuel, hf⟩ := h
  rcases Go.Deep.open_slice Try.underlying34 hf with ⟨hcs, _⟩ | ⟨a, len', cap', m, n, D, Pl, hcs, _, hl, hm, hmm, _, hx⟩
  · simp [Value.cells] at hcs
    obtain ⟨rfl, rfl, rfl⟩ := hcs
    exact ⟨none, 0, 0, fun _ => 0, fun _ => 0, fun _ => 0, fun _ => 0, fun _ => ⟨#[]⟩, rfl, Nat.zero_le _, fun i hi => absurd hi (Nat.not_lt_zero _)⟩
  · simp [Value.cells] at hcs
    obtain ⟨rfl, rfl, rfl⟩ := hcs
    rw [cellsCv] at hx
    have hlm : len ≤ m := by rw [hmm]; split <;> omega
    have each : ∀ i, i < len → ∃ q : Int × Int × Int × Int × ByteArray, ∃ b o, some a = some (⟨b, o, none⟩ : Addr) ∧ b < W.heap.size ∧ W.cell? ⟨b, o + i * 5, none⟩ = some (.int .i64 q.1) ∧ W.cell? ⟨b, o + i * 5 + 1, none⟩ = some (.int .i64 q.2.1) ∧
        W.cell? ⟨b, o + i * 5 + 2, none⟩ = some (.int .i64 q.2.2.1) ∧ W.cell? ⟨b, o + i * 5 + 2 + 1, none⟩ = some (.int .i64 q.2.2.2.1) ∧ W.cell? ⟨b, o + i * 5 + 2 + 2, none⟩ = some (.string q.2.2.2.2) ∧ q.2.2.2.2.size ≤ maxLen := by
      intro i hi
      obtain ⟨cs', h1, h2⟩ := hx i (by omega)
      obtain ⟨_, hlen, hcell⟩ := World.cells?_some h1
      have kr : Try.prog.cellsOf 42 = 2 := by kernel_rfl
      have kv : Try.prog.cellsOf 29 = 3 := by kernel_rfl
      have k1 : Try.prog.cellsOf 2 = 1 := by kernel_rfl
      have ks : Try.prog.cellsOf 9 = 1 := by kernel_rfl
      match cs', hlen with
      | [v0, v1, v2, v3, v4], _ =>
        obtain ⟨y0, y1, n1, _, _, g0, g1⟩ := trod_struct2 Try.underlying62 h2
        simp only [kr, kv, List.drop_zero, List.take_succ_cons, List.take_zero, List.drop_succ_cons] at g0 g1
        obtain ⟨z0, z1, n2, _, _, q0, q1⟩ := trod_struct2 Try.underlying42 g0
        obtain ⟨z2, z3, z4, n3, q2, q3, q4⟩ := trod_struct3' Try.underlying29 g1
        simp only [k1, ks, List.drop_zero, List.take_succ_cons, List.take_zero, List.drop_succ_cons] at q0 q1 q2 q3 q4
        obtain ⟨x0, e0, _, _⟩ := DataW.trod_int Try.underlying2 q0
        obtain ⟨x1, e1, _, _⟩ := DataW.trod_int Try.underlying2 q1
        obtain ⟨x2, e2, _, _⟩ := DataW.trod_int Try.underlying2 q2
        obtain ⟨x3, e3, _, _⟩ := DataW.trod_int Try.underlying2 q3
        obtain ⟨s, e4, _, ws⟩ := DataW.trod_string Try.underlying9 q4
        simp at e0 e1 e2 e3 e4
        subst e0 e1 e2 e3 e4
        have d0 := hcell 0 (by omega)
        have d1 := hcell 1 (by omega)
        have d2 := hcell 2 (by omega)
        have d3 := hcell 3 (by omega)
        have d4 := hcell 4 (by omega)
        obtain ⟨b, off, spot⟩ := a
        have hspot : spot = none := by
          obtain ⟨cs0, h01, _⟩ := hx 0 (by omega)
          obtain ⟨_, hlen0, hcell0⟩ := World.cells?_some h01
          have hc0 := hcell0 0 (by omega)
          rw [List.getElem?_eq_getElem (by omega)] at hc0
          have hc1 := World.cell?_spot hc0
          simpa [Addr.add] using hc1
        subst hspot
        simp only [Go.WideShapes.add_plain] at d0 d1 d2 d3 d4
        refine ⟨(x0, x1, x2, x3, s), b, off, rfl, World.block_lt_of_cell? W ⟨b, off + i * 5 + 0, none⟩ d0, d0, d1, d2, d3, d4, ws⟩
    obtain ⟨q, hq⟩ := Go.Deep.choose_lt each
    exact ⟨some a, len, cap, fun i => (q i).1, fun i => (q i).2.1, fun i => (q i).2.2.1, fun i => (q i).2.2.2.1, fun i => (q i).2.2.2.2, rfl, Nat.le_trans hl hm, hq⟩
end Go.Proofs.Ythagnaeemipnlaa
