import Derived.Test.YtanjlpgdmnapdaaDdB
namespace Go.Proofs.Ytanjlpgdmnapdaa
open Go.RowKit Go.Maps
set_option linter.unusedSimpArgs false
set_option linter.unusedVariables false

/-! ### A disk whose rows lie in some blocks -/
theorem RowAt.keepP {α : Type} {k : Nat} {f : α → List Value} {W W' : World} {A : Option Addr} {L : List α} {P : Nat → Prop} (h : RowAt k f W A L) (hs : W.heap.size ≤ W'.heap.size) (hP : ∀ (i : Nat) x, L[i]? = some x → ∀ b o, A = some ⟨b, o, none⟩ → P b) (hc : ∀ b o, P b → b < W.heap.size → W'.cell? ⟨b, o, none⟩ = W.cell? ⟨b, o, none⟩) : RowAt k f W' A L :=
  ⟨h.1, fun i x hx => by
    obtain ⟨b, o, e, hl, hcc⟩ := h.2 i x hx
    exact ⟨b, o, e, Nat.lt_of_lt_of_le hl hs, fun j v hv => (hc b _ (hP i x hx b o e) hl).trans (hcc j v hv)⟩⟩
def DkRowP (P : Nat → Prop) (w : World) (v : Value) (d : DK) : Prop := ∃ A1 c1 A2 c2 A3 c3, v = .agg #[.slice A1 d.live.length c1, .slice A2 d.safe.length c2, .slice A3 d.ops.length c3] ∧ FiRow w A1 d.live ∧ FiRow w A2 d.safe ∧ DpRow w A3 d.ops ∧ (A1 = none → c1 = 0) ∧ (A2 = none → c2 = 0) ∧ (A3 = none → c3 = 0) ∧
  (∀ (i : Nat) x, d.live[i]? = some x → ∀ b o, A1 = some ⟨b, o, none⟩ → P b) ∧ (∀ (i : Nat) x, d.safe[i]? = some x → ∀ b o, A2 = some ⟨b, o, none⟩ → P b) ∧ (∀ (i : Nat) x, d.ops[i]? = some x → ∀ b o, A3 = some ⟨b, o, none⟩ → P b)
theorem DkRowP.row {P : Nat → Prop} {w : World} {v : Value} {d : DK} (h : DkRowP P w v d) : DkRow w v d := by
  obtain ⟨A1, c1, A2, c2, A3, c3, e, h1, h2, h3, z1, z2, z3, _⟩ := h
  exact ⟨A1, c1, A2, c2, A3, c3, e, h1, h2, h3, z1, z2, z3⟩
theorem DkRowP.keep {P : Nat → Prop} {w w' : World} {v : Value} {d : DK} (h : DkRowP P w v d) (hs : w.heap.size ≤ w'.heap.size) (hc : ∀ b o, P b → b < w.heap.size → w'.cell? ⟨b, o, none⟩ = w.cell? ⟨b, o, none⟩) : DkRowP P w' v d := by
  obtain ⟨A1, c1, A2, c2, A3, c3, e, h1, h2, h3, z1, z2, z3, p1, p2, p3⟩ := h
  exact ⟨A1, c1, A2, c2, A3, c3, e, RowAt.keepP h1 hs p1 hc, RowAt.keepP h2 hs p2 hc, RowAt.keepP h3 hs p3 hc, z1, z2, z3, p1, p2, p3⟩
theorem DkRowP.below {P : Nat → Prop} {w w' : World} {v : Value} {d : DK} (h : DkRowP P w v d) (hb : Below w.heap.size w w') : DkRowP P w' v d := h.keep hb.size (fun b o _ hl => hb.cell (p := ⟨b, o, none⟩) hl)
theorem DkRowP.set {P : Nat → Prop} {w : World} {v y : Value} {d : DK} {g o : Nat} (h : DkRowP P w v d) (hg : ¬ P g) : DkRowP P (w.setCell ⟨g, o, none⟩ y) v d :=
  h.keep (by simp) (fun b o' hP _ => World.cell?_setCell_other w ⟨g, o, none⟩ ⟨b, o', none⟩ y (fun e => hg (by have := congrArg Addr.block e; simp only at this; rw [this]; exact hP)))
theorem DkRowP.drew {P : Nat → Prop} {w : World} {v : Value} {d : DK} (h : DkRowP P w v d) : DkRowP P w.drew v d := h.keep (Nat.le_refl _) (fun _ _ _ _ => rfl)
theorem DkRowP.imp {P Q : Nat → Prop} {w : World} {v : Value} {d : DK} (h : DkRowP P w v d) (hq : ∀ b, b < w.heap.size → P b → Q b) : DkRowP Q w v d := by
  obtain ⟨A1, c1, A2, c2, A3, c3, e, h1, h2, h3, z1, z2, z3, p1, p2, p3⟩ := h
  have k : ∀ {α : Type} {k : Nat} {f : α → List Value} {A : Option Addr} {L : List α}, RowAt k f w A L → (∀ (i : Nat) x, L[i]? = some x → ∀ b o, A = some ⟨b, o, none⟩ → P b) → ∀ (i : Nat) x, L[i]? = some x → ∀ b o, A = some ⟨b, o, none⟩ → Q b := fun hr hp i x hx b o e => by
    obtain ⟨b', o', e', hl, _⟩ := hr.2 i x hx
    have hb := hp i x hx b o e
    rw [e] at e'; cases e'
    exact hq b hl hb
  exact ⟨A1, c1, A2, c2, A3, c3, e, h1, h2, h3, z1, z2, z3, k h1 p1, k h2 p2, k h3 p3⟩
theorem DkRowF.toP {w : World} {B : Nat} {v : Value} {d : DK} (h : DkRowF w B v d) : DkRowP (fun b => B ≤ b) w v d := by
  obtain ⟨A1, c1, A2, c2, A3, c3, e, h1, h2, h3, z1, z2, z3, f1, f2, f3⟩ := h
  exact ⟨A1, c1, A2, c2, A3, c3, e, h1, h2, h3, z1, z2, z3, fun _ _ _ b o e => f1 b o e, fun _ _ _ b o e => f2 b o e, fun _ _ _ b o e => f3 b o e⟩
def FarB (r g5 g6 b : Nat) : Prop := r < b ∧ b ≠ g5 ∧ b ≠ g6
def dpCells (w : World) (g : Nat) (x : DP) : Prop := w.cell? ⟨g, 0, none⟩ = some (.int .i64 x.k) ∧ w.cell? ⟨g, 1, none⟩ = some (.string x.n) ∧ w.cell? ⟨g, 2, none⟩ = some (.string x.t) ∧ w.cell? ⟨g, 3, none⟩ = some (.string x.d)
/-- While a disk and an op are drawn. -/
structure DoI (w : World) (r : Nat) (A : Option Addr) (len cap g5 g6 : Nat) (d : DK) (x : DP) (u : World) : Prop where
  hr : r = w.heap.size + 2
  g5l : r < g5
  g56 : g5 < g6
  g6l : g6 < u.heap.size
  rd : Rd u r A len cap
  inw : 0 < len → ∀ x, A = some x → x.block < w.heap.size
  bel : Below w.heap.size w u
  ex : ∃ a1 a2 a3 l1 l2 l3 c1 c2 c3, u.cell? ⟨g5, 0, none⟩ = some (.slice a1 l1 c1) ∧ u.cell? ⟨g5, 1, none⟩ = some (.slice a2 l2 c2) ∧ u.cell? ⟨g5, 2, none⟩ = some (.slice a3 l3 c3) ∧ DkRowP (FarB r g5 g6) u (.agg #[.slice a1 l1 c1, .slice a2 l2 c2, .slice a3 l3 c3]) d
  op : dpCells u g6 x
  nf : ∀ b o, b = g5 ∨ b = g6 ∨ b = w.heap.size ∨ b = w.heap.size + 1 → u.frozen? ⟨b, o, none⟩ = false
  z0 : u.cell? ⟨w.heap.size, 0, none⟩ = some (.slice none 0 0)
  z1 : u.cell? ⟨w.heap.size, 1, none⟩ = some (.slice none 0 0)
  z2 : u.cell? ⟨w.heap.size, 2, none⟩ = some (.slice none 0 0)
  y0 : u.cell? ⟨w.heap.size + 1, 0, none⟩ = some (.int .i64 0)
  y1 : u.cell? ⟨w.heap.size + 1, 1, none⟩ = some (.string ⟨#[]⟩)
  y2 : u.cell? ⟨w.heap.size + 1, 2, none⟩ = some (.string ⟨#[]⟩)
  y3 : u.cell? ⟨w.heap.size + 1, 3, none⟩ = some (.string ⟨#[]⟩)
  lil : DkLil d
  xl : dpLil x
theorem DoI.keep {w u u' : World} {r g5 g6 : Nat} {A : Option Addr} {len cap : Nat} {d : DK} {x : DP} (h : DoI w r A len cap g5 g6 d x u) (hc : ∀ b o, b < u.heap.size → b ≠ r → u'.cell? ⟨b, o, none⟩ = u.cell? ⟨b, o, none⟩) (hf : ∀ b o, b < u.heap.size → b ≠ r → u'.frozen? ⟨b, o, none⟩ = u.frozen? ⟨b, o, none⟩)
    (hs : u.heap.size ≤ u'.heap.size) (hrd : Rd u' r A len cap) (hb : Below w.heap.size w u') : DoI w r A len cap g5 g6 d x u' := by
  obtain ⟨hr, g5l, g56, g6l, rd, inw, bel, ⟨a1, a2, a3, l1, l2, l3, c1, c2, c3, e1, e2, e3, hrow⟩, ⟨o0, o1, o2, o3⟩, nf, z0, z1, z2, y0, y1, y2, y3, lil, xl⟩ := h
  have k5 : ∀ o, u'.cell? ⟨g5, o, none⟩ = u.cell? ⟨g5, o, none⟩ := fun o => hc _ _ (by omega) (by omega)
  have k6 : ∀ o, u'.cell? ⟨g6, o, none⟩ = u.cell? ⟨g6, o, none⟩ := fun o => hc _ _ (by omega) (by omega)
  have k0 : ∀ o, u'.cell? ⟨w.heap.size, o, none⟩ = u.cell? ⟨w.heap.size, o, none⟩ := fun o => hc _ _ (by omega) (by omega)
  have k1 : ∀ o, u'.cell? ⟨w.heap.size + 1, o, none⟩ = u.cell? ⟨w.heap.size + 1, o, none⟩ := fun o => hc _ _ (by omega) (by omega)
  exact ⟨hr, g5l, g56, by omega, hrd, inw, hb, ⟨a1, a2, a3, l1, l2, l3, c1, c2, c3, (k5 0).trans e1, (k5 1).trans e2, (k5 2).trans e3, hrow.keep hs (fun b o hP hl => hc b o hl (by have := hP.1; omega))⟩, ⟨(k6 0).trans o0, (k6 1).trans o1, (k6 2).trans o2, (k6 3).trans o3⟩,
    fun b o hb => (hf b o (by omega) (by omega)).trans (nf b o hb), (k0 0).trans z0, (k0 1).trans z1, (k0 2).trans z2, (k1 0).trans y0, (k1 1).trans y1, (k1 2).trans y2, (k1 3).trans y3, lil, xl⟩
theorem DoI.upd {w u u' : World} {r g5 g6 : Nat} {A : Option Addr} {len cap : Nat} {d : DK} {x : DP} (h : DoI w r A len cap g5 g6 d x u) (hu : Upd r u u') (hrd : Rd u' r A len cap) : DoI w r A len cap g5 g6 d x u' :=
  h.keep hu.1 hu.2.1 hu.2.2.1 hrd (h.bel.trans (hu.2.2.2.mono (by have := h.hr; omega)))
theorem DoI.below {w u u' : World} {r g5 g6 : Nat} {A : Option Addr} {len cap : Nat} {d : DK} {x : DP} (h : DoI w r A len cap g5 g6 d x u) (hb : Below u.heap.size u u') : DoI w r A len cap g5 g6 d x u' :=
  h.keep (fun b o hl _ => hb.cell (p := ⟨b, o, none⟩) hl) (fun b o hl _ => hb.frozen (p := ⟨b, o, none⟩) hl) hb.size (h.rd.below hb) (bchain h.bel hb)
theorem set_oth {u : World} {g o b o' : Nat} {y : Value} (h : b ≠ g ∨ o' ≠ o) : (u.setCell ⟨g, o, none⟩ y).cell? ⟨b, o', none⟩ = u.cell? ⟨b, o', none⟩ := World.cell?_setCell_other u ⟨g, o, none⟩ ⟨b, o', none⟩ y (fun e => by cases e; simp at h)
theorem set_own {u : World} {g o : Nat} {y z : Value} (h : u.cell? ⟨g, o, none⟩ = some z) : (u.setCell ⟨g, o, none⟩ y).cell? ⟨g, o, none⟩ = some y := World.cell?_setCell_same u ⟨g, o, none⟩ y h
theorem DoI.putK {w u : World} {r g5 g6 : Nat} {A : Option Addr} {len cap : Nat} {d : DK} {x : DP} (h : DoI w r A len cap g5 g6 d x u) (y : Int) : DoI w r A len cap g5 g6 d ⟨y, x.n, x.t, x.d⟩ (u.setCell ⟨g6, 0, none⟩ (.int .i64 y)) := by
  obtain ⟨hr, g5l, g56, g6l, rd, inw, bel, ⟨a1, a2, a3, l1, l2, l3, c1, c2, c3, e1, e2, e3, hrow⟩, ⟨o0, o1, o2, o3⟩, nf, z0, z1, z2, y0, y1, y2, y3, lil, xl⟩ := h
  have k : ∀ b o, b ≠ g6 → (u.setCell ⟨g6, 0, none⟩ (.int .i64 y)).cell? ⟨b, o, none⟩ = u.cell? ⟨b, o, none⟩ := fun b o hb => set_oth (Or.inl hb)
  exact ⟨hr, g5l, g56, by simpa using g6l, rd.store inw (by omega) (by omega), inw, bel.setCell (by show w.heap.size ≤ g6; omega) _, ⟨a1, a2, a3, l1, l2, l3, c1, c2, c3, (k g5 0 (by omega)).trans e1, (k g5 1 (by omega)).trans e2, (k g5 2 (by omega)).trans e3, hrow.set (fun hP => hP.2.2 rfl)⟩, ⟨set_own o0, (set_oth (Or.inr (by decide))).trans o1, (set_oth (Or.inr (by decide))).trans o2, (set_oth (Or.inr (by decide))).trans o3⟩,
    fun b o hb => by rw [frozen_set]; exact nf b o hb, (k _ _ (by omega)).trans z0, (k _ _ (by omega)).trans z1, (k _ _ (by omega)).trans z2, (k _ _ (by omega)).trans y0, (k _ _ (by omega)).trans y1, (k _ _ (by omega)).trans y2, (k _ _ (by omega)).trans y3, lil, xl⟩
theorem DoI.putN {w u : World} {r g5 g6 : Nat} {A : Option Addr} {len cap : Nat} {d : DK} {x : DP} (h : DoI w r A len cap g5 g6 d x u) (y : ByteArray) (hy : y.size ≤ 1048576) : DoI w r A len cap g5 g6 d ⟨x.k, y, x.t, x.d⟩ (u.setCell ⟨g6, 1, none⟩ (.string y)) := by
  obtain ⟨hr, g5l, g56, g6l, rd, inw, bel, ⟨a1, a2, a3, l1, l2, l3, c1, c2, c3, e1, e2, e3, hrow⟩, ⟨o0, o1, o2, o3⟩, nf, z0, z1, z2, y0, y1, y2, y3, lil, xl⟩ := h
  have k : ∀ b o, b ≠ g6 → (u.setCell ⟨g6, 1, none⟩ (.string y)).cell? ⟨b, o, none⟩ = u.cell? ⟨b, o, none⟩ := fun b o hb => set_oth (Or.inl hb)
  exact ⟨hr, g5l, g56, by simpa using g6l, rd.store inw (by omega) (by omega), inw, bel.setCell (by show w.heap.size ≤ g6; omega) _, ⟨a1, a2, a3, l1, l2, l3, c1, c2, c3, (k g5 0 (by omega)).trans e1, (k g5 1 (by omega)).trans e2, (k g5 2 (by omega)).trans e3, hrow.set (fun hP => hP.2.2 rfl)⟩, ⟨(set_oth (Or.inr (by decide))).trans o0, set_own o1, (set_oth (Or.inr (by decide))).trans o2, (set_oth (Or.inr (by decide))).trans o3⟩,
    fun b o hb => by rw [frozen_set]; exact nf b o hb, (k _ _ (by omega)).trans z0, (k _ _ (by omega)).trans z1, (k _ _ (by omega)).trans z2, (k _ _ (by omega)).trans y0, (k _ _ (by omega)).trans y1, (k _ _ (by omega)).trans y2, (k _ _ (by omega)).trans y3, lil, ⟨hy, xl.2⟩⟩
theorem DoI.putT {w u : World} {r g5 g6 : Nat} {A : Option Addr} {len cap : Nat} {d : DK} {x : DP} (h : DoI w r A len cap g5 g6 d x u) (y : ByteArray) (hy : y.size ≤ 1048576) : DoI w r A len cap g5 g6 d ⟨x.k, x.n, y, x.d⟩ (u.setCell ⟨g6, 2, none⟩ (.string y)) := by
  obtain ⟨hr, g5l, g56, g6l, rd, inw, bel, ⟨a1, a2, a3, l1, l2, l3, c1, c2, c3, e1, e2, e3, hrow⟩, ⟨o0, o1, o2, o3⟩, nf, z0, z1, z2, y0, y1, y2, y3, lil, xl⟩ := h
  have k : ∀ b o, b ≠ g6 → (u.setCell ⟨g6, 2, none⟩ (.string y)).cell? ⟨b, o, none⟩ = u.cell? ⟨b, o, none⟩ := fun b o hb => set_oth (Or.inl hb)
  exact ⟨hr, g5l, g56, by simpa using g6l, rd.store inw (by omega) (by omega), inw, bel.setCell (by show w.heap.size ≤ g6; omega) _, ⟨a1, a2, a3, l1, l2, l3, c1, c2, c3, (k g5 0 (by omega)).trans e1, (k g5 1 (by omega)).trans e2, (k g5 2 (by omega)).trans e3, hrow.set (fun hP => hP.2.2 rfl)⟩, ⟨(set_oth (Or.inr (by decide))).trans o0, (set_oth (Or.inr (by decide))).trans o1, set_own o2, (set_oth (Or.inr (by decide))).trans o3⟩,
    fun b o hb => by rw [frozen_set]; exact nf b o hb, (k _ _ (by omega)).trans z0, (k _ _ (by omega)).trans z1, (k _ _ (by omega)).trans z2, (k _ _ (by omega)).trans y0, (k _ _ (by omega)).trans y1, (k _ _ (by omega)).trans y2, (k _ _ (by omega)).trans y3, lil, ⟨xl.1, hy, xl.2.2⟩⟩
theorem DoI.putD {w u : World} {r g5 g6 : Nat} {A : Option Addr} {len cap : Nat} {d d' : DK} {x : DP} {a1 a2 a3 : Option Addr} {l1 l2 l3 c1 c2 c3 : Nat} (h : DoI w r A len cap g5 g6 d x u) (hrow : DkRowP (FarB r g5 g6) u (.agg #[.slice a1 l1 c1, .slice a2 l2 c2, .slice a3 l3 c3]) d') (lil : DkLil d') :
    DoI w r A len cap g5 g6 d' x (((u.setCell ⟨g5, 0, none⟩ (.slice a1 l1 c1)).setCell ⟨g5, 1, none⟩ (.slice a2 l2 c2)).setCell ⟨g5, 2, none⟩ (.slice a3 l3 c3)) := by
  obtain ⟨hr, g5l, g56, g6l, rd, inw, bel, ⟨_, _, _, _, _, _, _, _, _, e1, e2, e3, _⟩, ⟨o0, o1, o2, o3⟩, nf, z0, z1, z2, y0, y1, y2, y3, _, xl⟩ := h
  have k : ∀ b o, b ≠ g5 → (((u.setCell ⟨g5, 0, none⟩ (.slice a1 l1 c1)).setCell ⟨g5, 1, none⟩ (.slice a2 l2 c2)).setCell ⟨g5, 2, none⟩ (.slice a3 l3 c3)).cell? ⟨b, o, none⟩ = u.cell? ⟨b, o, none⟩ := fun b o hb => by
    rw [set_oth (Or.inl hb), set_oth (Or.inl hb), set_oth (Or.inl hb)]
  obtain ⟨b0, b1, b2⟩ := box_cells (v1 := .slice a1 l1 c1) (v2 := .slice a2 l2 c2) (v3 := .slice a3 l3 c3) e1 e2 e3
  have hn : ¬ FarB r g5 g6 g5 := fun hP => hP.2.1 rfl
  have hw : w.heap.size ≤ g5 := by omega
  have hq : ¬ g5 = r := by omega
  exact ⟨hr, g5l, g56, by simpa using g6l, ((rd.store inw hw hq).store inw hw hq).store inw hw hq, inw, ((bel.setCell (by exact hw) _).setCell (by exact hw) _).setCell (by exact hw) _, ⟨a1, a2, a3, l1, l2, l3, c1, c2, c3, b0, b1, b2, ((hrow.set hn).set hn).set hn⟩, ⟨(k g6 0 (by omega)).trans o0, (k g6 1 (by omega)).trans o1, (k g6 2 (by omega)).trans o2, (k g6 3 (by omega)).trans o3⟩,
    fun b o hb => by rw [frozen_set, frozen_set, frozen_set]; exact nf b o hb, (k _ _ (by omega)).trans z0, (k _ _ (by omega)).trans z1, (k _ _ (by omega)).trans z2, (k _ _ (by omega)).trans y0, (k _ _ (by omega)).trans y1, (k _ _ (by omega)).trans y2, (k _ _ (by omega)).trans y3, lil, xl⟩
/-- The answer put together. -/
theorem DoI.out {w u : World} {r g5 g6 : Nat} {A : Option Addr} {len cap : Nat} {d : DK} {x : DP} (h : DoI w r A len cap g5 g6 d x u) {g : Nat} (hg : g = w.heap.size ∨ g = w.heap.size + 1) : ¬ FarB r g5 g6 g := fun hP => by have := hP.1; have := h.hr; omega
end Go.Proofs.Ytanjlpgdmnapdaa
