import Derived.Test.YtpkmboohfomieaaGreatDoorFnD
import Derived.OpenShut
import Derived.Deep.Slices
import Derived.ChangeSame
import Derived.ChangeSlices
import Derived.ChangeVars
import Derived.MakeChecks
namespace Go.Proofs.YtpkmboohfomieaaGreatDoor
open Go.ChangeShapes Go.WideShapes Go.ChangeAt Go.RowKit Go.Joins

theorem trod_struct3' {H : Type} {enc : TypeId × Value → H} {P : Program} {w : World} {base : Nat} {spare : Nat → Bool} {held : Bool} {t : TypeId} {f0 f1 f2 : Field} {fuel : Nat} {cs : List Value} {x : DataW H × List MemPlace} (ht : P.underlying t = some (.struct #[f0, f1, f2])) (h : DataW.trod enc P w base spare held fuel t cs = some x) :
    ∃ y0 y1 y2 n, x = (.agg [y0.1, y1.1, y2.1], y0.2 ++ (y1.2 ++ y2.2)) ∧ DataW.trod enc P w base spare held n f0.type ((cs.drop f0.offset).take (P.cellsOf f0.type)) = some y0 ∧
      DataW.trod enc P w base spare held n f1.type ((cs.drop f1.offset).take (P.cellsOf f1.type)) = some y1 ∧ DataW.trod enc P w base spare held n f2.type ((cs.drop f2.offset).take (P.cellsOf f2.type)) = some y2 := by
  obtain ⟨xs, n, _, rfl, hl, hlen, hf⟩ := DataW.trod_struct ht h
  match xs, hlen with
  | [y0, y1, y2], _ => exact ⟨y0, y1, y2, n, by simp, by simpa using hf 0 f0 rfl, by simpa using hf 1 f1 rfl, by simpa using hf 2 f2 rfl⟩
theorem trod_struct6' {H : Type} {enc : TypeId × Value → H} {P : Program} {w : World} {base : Nat} {spare : Nat → Bool} {held : Bool} {t : TypeId} {f0 f1 f2 f3 f4 f5 : Field} {fuel : Nat} {cs : List Value} {x : DataW H × List MemPlace} (ht : P.underlying t = some (.struct #[f0, f1, f2, f3, f4, f5])) (h : DataW.trod enc P w base spare held fuel t cs = some x) :
    ∃ y0 y1 y2 y3 y4 y5 n, DataW.trod enc P w base spare held n f0.type ((cs.drop f0.offset).take (P.cellsOf f0.type)) = some y0 ∧
      DataW.trod enc P w base spare held n f1.type ((cs.drop f1.offset).take (P.cellsOf f1.type)) = some y1 ∧ DataW.trod enc P w base spare held n f2.type ((cs.drop f2.offset).take (P.cellsOf f2.type)) = some y2 ∧
      DataW.trod enc P w base spare held n f3.type ((cs.drop f3.offset).take (P.cellsOf f3.type)) = some y3 ∧ DataW.trod enc P w base spare held n f4.type ((cs.drop f4.offset).take (P.cellsOf f4.type)) = some y4 ∧
      DataW.trod enc P w base spare held n f5.type ((cs.drop f5.offset).take (P.cellsOf f5.type)) = some y5 := by
  obtain ⟨xs, n, _, rfl, hl, hlen, hf⟩ := DataW.trod_struct ht h
  match xs, hlen with
  | [y0, y1, y2, y3, y4, y5], _ => exact ⟨y0, y1, y2, y3, y4, y5, n, by simpa using hf 0 f0 rfl, by simpa using hf 1 f1 rfl, by simpa using hf 2 f2 rfl, by simpa using hf 3 f3 rfl, by simpa using hf 4 f4 rfl, by simpa using hf 5 f5 rfl⟩

theorem cellsFn : Tryz.prog.cellsOf 101 = 14 := by kernel_rfl
theorem cellsI64 : Tryz.prog.cellsOf 2 = 1 := by kernel_rfl

/-- A row of whole numbers that came in, in a cell. -/
theorem open_kids {H : Type} {enc : TypeId × Value → H} {W : World} {base : Nat} {sp : Nat → Bool} {held : Bool} {fuel : Nat} {v : Value} {x : DataW H × List MemPlace}
    (h : DataW.trod enc Tryz.prog W base sp held fuel 58 [v] = some x) : ∃ KA l kc, v = .slice KA (l : List Int).length kc ∧ IntRow W KA l := by
  rcases open_ints Tryz.underlying58 Tryz.underlying2 cellsI64 h with ⟨hcs, _⟩ | ⟨a, len, cap, zs, hcs, _, hl, hm, hz, _, hcell, _⟩
  · simp at hcs
    exact ⟨none, [], 0, hcs, Nat.zero_le _, fun i hi => absurd hi (Nat.not_lt_zero _)⟩
  · simp at hcs
    have hzl : len ≤ zs.length := by rw [hz]; split <;> omega
    refine ⟨some a, zs.take len, cap, by rw [hcs, List.length_take, Nat.min_eq_left hzl], by rw [List.length_take]; omega, fun i hi => ?_⟩
    rw [List.length_take] at hi
    obtain ⟨b, off, rfl, hc⟩ := Go.ints_at hcell (by omega)
    refine ⟨b, off, rfl, World.block_lt_of_cell? W ⟨b, off + i, none⟩ (hc i (by omega)), ?_⟩
    rw [hc i (by omega), List.getD_eq_getElem?_getD, List.getD_eq_getElem?_getD, List.getElem?_take, if_pos (by omega)]

set_option maxRecDepth 100000 in
theorem open_fns {H : Type} {enc : TypeId × Value → H} {W : World} {r : Reach} {b0 base : Nat} {sp : Nat → Bool} {held : Bool} {v : Value} {d : DataW H} {p : List MemPlace}
    (hv : Value.okWide Tryz.prog W r b0 46 v) (h : DataW.Trod enc Tryz.prog W base sp held 46 v d p) :
    ∃ A len cap F, v = .slice A len cap ∧ FnRow W A len F := by
  obtain ⟨a0, len, cap, rfl⟩ := okWide_slice Tryz.underlying46 hv
  obtain ⟨fuel, hf⟩ := h
  rcases Go.Deep.open_slice Tryz.underlying46 hf with ⟨hcs, _⟩ | ⟨a, len', cap', m, n, D, Pl, hcs, _, hl, hm, hmm, _, hx⟩
  · simp [Value.cells] at hcs
    obtain ⟨rfl, rfl, rfl⟩ := hcs
    exact ⟨none, 0, 0, fun _ => ⟨0, 0, 0, 0, ⟨#[]⟩, 0, 0, false, false, 0, 0, false, false, []⟩, rfl, Nat.zero_le _, fun i hi => absurd hi (Nat.not_lt_zero _)⟩
  · simp [Value.cells] at hcs
    obtain ⟨rfl, rfl, rfl⟩ := hcs
    rw [cellsFn] at hx
    have hlm : len ≤ m := by rw [hmm]; split <;> omega
    have each : ∀ i, i < len → ∃ q : FN, ∃ b o KA kc, some a = some (⟨b, o, none⟩ : Addr) ∧ b < W.heap.size ∧ NodeAt W b (o + i * 14) q KA kc ∧ IntRow W KA q.kids ∧ q.cs.size ≤ maxLen := by
      intro i hi
      obtain ⟨cs', h1, h2⟩ := hx i (by omega)
      obtain ⟨_, hlen, hcell⟩ := World.cells?_some h1
      have kr : Tryz.prog.cellsOf 97 = 2 := by kernel_rfl
      have kv : Tryz.prog.cellsOf 96 = 3 := by kernel_rfl
      have kp : Tryz.prog.cellsOf 99 = 4 := by kernel_rfl
      have ks : Tryz.prog.cellsOf 9 = 1 := by kernel_rfl
      have kb : Tryz.prog.cellsOf 4 = 1 := by kernel_rfl
      have kk : Tryz.prog.cellsOf 58 = 1 := by kernel_rfl
      match cs', hlen with
      | [v0, v1, v2, v3, v4, v5, v6, v7, v8, v9, v10, v11, v12, v13], _ =>
        obtain ⟨y0, y1, y2, y3, y4, y5, n1, g0, g1, g2, g3, g4, g5⟩ := trod_struct6' Tryz.underlying101 h2
        simp only [cellsI64, kv, kp, kk, List.drop_zero, List.take_succ_cons, List.take_zero, List.drop_succ_cons] at g0 g1 g2 g3 g4 g5
        obtain ⟨_, _, _, _, _, q2, q3, q4⟩ := trod_struct3' Tryz.underlying96 g2
        obtain ⟨_, _, _, _, _, q5, q7, q8⟩ := trod_struct3' Tryz.underlying99 g3
        obtain ⟨_, _, _, _, _, q9, q11, q12⟩ := trod_struct3' Tryz.underlying99 g4
        simp only [cellsI64, kr, ks, kb, List.drop_zero, List.take_succ_cons, List.take_zero, List.drop_succ_cons] at q2 q3 q4 q5 q7 q8 q9 q11 q12
        obtain ⟨_, _, _, _, _, r5, r6⟩ := trod_struct2 Tryz.underlying97 q5
        obtain ⟨_, _, _, _, _, r9, r10⟩ := trod_struct2 Tryz.underlying97 q9
        simp only [cellsI64, List.drop_zero, List.take_succ_cons, List.take_zero, List.drop_succ_cons] at r5 r6 r9 r10
        obtain ⟨x0, e0, _, _⟩ := DataW.trod_int Tryz.underlying2 g0
        obtain ⟨x1, e1, _, _⟩ := DataW.trod_int Tryz.underlying2 g1
        obtain ⟨x2, e2, _, _⟩ := DataW.trod_int Tryz.underlying2 q2
        obtain ⟨x3, e3, _, _⟩ := DataW.trod_int Tryz.underlying2 q3
        obtain ⟨s, e4, _, ws⟩ := DataW.trod_string Tryz.underlying9 q4
        obtain ⟨x5, e5, _, _⟩ := DataW.trod_int Tryz.underlying2 r5
        obtain ⟨x6, e6, _, _⟩ := DataW.trod_int Tryz.underlying2 r6
        obtain ⟨x7, e7, _⟩ := DataW.trod_bool Tryz.underlying4 q7
        obtain ⟨x8, e8, _⟩ := DataW.trod_bool Tryz.underlying4 q8
        obtain ⟨x9, e9, _, _⟩ := DataW.trod_int Tryz.underlying2 r9
        obtain ⟨x10, e10, _, _⟩ := DataW.trod_int Tryz.underlying2 r10
        obtain ⟨x11, e11, _⟩ := DataW.trod_bool Tryz.underlying4 q11
        obtain ⟨x12, e12, _⟩ := DataW.trod_bool Tryz.underlying4 q12
        obtain ⟨KA, l, kc, rfl, hkr⟩ := open_kids g5
        simp at e0 e1 e2 e3 e4 e5 e6 e7 e8 e9 e10 e11 e12
        subst e0 e1 e2 e3 e4 e5 e6 e7 e8 e9 e10 e11 e12
        obtain ⟨b, off, spot⟩ := a
        have hspot : spot = none := by
          obtain ⟨cs0, h01, _⟩ := hx 0 (by omega)
          obtain ⟨_, hlen0, hcell0⟩ := World.cells?_some h01
          have hc0 := hcell0 0 (by omega)
          rw [List.getElem?_eq_getElem (by omega)] at hc0
          have hc1 := World.cell?_spot hc0
          simpa [Addr.add] using hc1
        subst hspot
        have hd : ∀ j, j < 14 → W.cell? ⟨b, off + i * 14 + j, none⟩ = [Value.int .i64 x0, .int .i64 x1, .int .i64 x2, .int .i64 x3, .string s, .int .i64 x5, .int .i64 x6, .bool x7, .bool x8, .int .i64 x9, .int .i64 x10, .bool x11, .bool x12, .slice KA l.length kc][j]? := fun j hj => by
          have := hcell j hj
          simpa only [Go.WideShapes.add_plain] using this
        exact ⟨⟨x0, x1, x2, x3, s, x5, x6, x7, x8, x9, x10, x11, x12, l⟩, b, off, KA, kc, rfl, World.block_lt_of_cell? W ⟨b, off + i * 14 + 0, none⟩ (hd 0 (by omega)),
          ⟨hd 0 (by omega), hd 1 (by omega), hd 2 (by omega), hd 3 (by omega), hd 4 (by omega), hd 5 (by omega), hd 6 (by omega), hd 7 (by omega), hd 8 (by omega), hd 9 (by omega), hd 10 (by omega), hd 11 (by omega), hd 12 (by omega), hd 13 (by omega)⟩, hkr, ws⟩
    have each' : ∀ i, ∃ q : FN, i < len → ∃ b o KA kc, some a = some (⟨b, o, none⟩ : Addr) ∧ b < W.heap.size ∧ NodeAt W b (o + i * 14) q KA kc ∧ IntRow W KA q.kids ∧ q.cs.size ≤ maxLen := fun i => by
      by_cases hi : i < len
      · obtain ⟨q, hq⟩ := each i hi
        exact ⟨q, fun _ => hq⟩
      · exact ⟨⟨0, 0, 0, 0, ⟨#[]⟩, 0, 0, false, false, 0, 0, false, false, []⟩, fun h => absurd h hi⟩
    exact ⟨some a, len, cap, fun i => Classical.choose (each' i), rfl, Nat.le_trans hl hm, fun i hi => Classical.choose_spec (each' i) hi⟩

theorem gFun : Tryz.prog.globalNamed "loop.example/g00267/impl.functions" = some 1 := by kernel_rfl
theorem tFun : (Tryz.prog.globals[1]?).map (·.type) = some 113 := by kernel_rfl
theorem cFun : Tryz.prog.cellsOf 112 = 3 := by kernel_rfl
theorem cStr : Tryz.prog.cellsOf 9 = 1 := by kernel_rfl
theorem cInt : Tryz.prog.cellsOf 3 = 1 := by kernel_rfl
/-- One row of the table, off its datum. -/
theorem fun_row {H : Type} {enc : TypeId × Value → H} {W : World} {base : Nat} {sp : Nat → Bool} {held : Bool} {fuel : Nat} {cs : Array Value} {s : List UInt8} {a b : Int} {p : List MemPlace} {m : Nat}
    (hc : ∀ j, W.cell? ⟨1, j, none⟩ = cs[j]?) (h : DataW.trod enc Tryz.prog W base sp held fuel 112 ((cs.toList.drop (m * 3)).take 3) = some (.agg [.lit (.string s), .lit (.int .i64 a), .lit (.int .i64 b)], p)) :
    ∃ s', W.cell? ⟨1, m * 3, none⟩ = some (.string s') ∧ W.cell? ⟨1, m * 3 + 1, none⟩ = some (.int .i64 a) ∧ W.cell? ⟨1, m * 3 + 2, none⟩ = some (.int .i64 b) := by
  obtain ⟨y0, y1, y2, n, e, q0, q1, q2⟩ := trod_struct3' Tryz.underlying112 h
  simp only [cStr, cInt, List.drop_zero] at q0 q1 q2
  obtain ⟨s', e0, d0, _⟩ := DataW.trod_string Tryz.underlying9 q0
  obtain ⟨x1, e1, d1, _⟩ := DataW.trod_int Tryz.underlying3 q1
  obtain ⟨x2, e2, d2, _⟩ := DataW.trod_int Tryz.underlying3 q2
  rw [d1, d2] at e
  simp at e
  obtain ⟨⟨_, rfl, rfl⟩, _⟩ := e
  have g : ∀ j, j < 3 → ((cs.toList.drop (m * 3)).take 3)[j]? = cs[m * 3 + j]? := fun j hj => by
    rw [List.getElem?_take, if_pos hj, List.getElem?_drop, Array.getElem?_toList]
  have k0 := congrArg (fun l => l[0]?) e0
  have k1 := congrArg (fun l => l[0]?) e1
  have k2 := congrArg (fun l => l[0]?) e2
  simp only [List.getElem?_take, List.getElem?_drop] at k0 k1 k2
  refine ⟨s', ?_, ?_, ?_⟩
  · rw [hc]; simpa using k0
  · rw [hc]; simpa using k1
  · rw [hc]; simpa using k2
end Go.Proofs.YtpkmboohfomieaaGreatDoor
