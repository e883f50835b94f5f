import Derived.Test.YtanjlpgdmnapdaaDdA
import Derived.Test.YtanjlpgdmnapdaaDdS
import Derived.Test.YtanjlpgdmnapdaaRpB
import Derived.Laws.OwnMore
import Derived.OwnWalk
namespace Go.Proofs.Ytanjlpgdmnapdaa
open Go.RowKit Go.Maps
set_option linter.unusedSimpArgs false
set_option linter.unusedVariables false

theorem own_updD {W w1 : World} {r B k s : Nat} {e : TypeId} {v : Value} {xs : List Value} (h : W.ownsRow B e s v k xs) (hu : UpdG r W w1) (hr : r < B) : w1.ownsRow B e s v k xs :=
  h.kept hu.2 (by
    cases hv : v.ownBlock with
    | none => exact Or.inl rfl
    | some g => exact Or.inr (fun e9 => by have := (h.lt g hv).1; cases e9; omega))
theorem DkHas.upd {W w1 : World} {r B : Nat} {v : Value} {d : DK} (h : DkHas W B v d) (hu : UpdG r W w1) (hr : r < B) : DkHas w1 B v d := by
  obtain ⟨v1, v2, v3, e, h1, h2, h3⟩ := h
  exact ⟨v1, v2, v3, e, own_updD h1 hu hr, own_updD h2 hu hr, own_updD h3 hu hr⟩
/-- While a disk is drawn. -/
structure DdI (W : World) (r : Nat) (A : Option Addr) (len cap : Nat) (d : DK) (u : World) : Prop where
  rd : Rd u r A len cap
  up : UpdG r W u
  ex : ∃ v1 v2 v3, u.cell? ⟨W.heap.size + 1, 0, none⟩ = some v1 ∧ u.cell? ⟨W.heap.size + 1, 1, none⟩ = some v2 ∧ u.cell? ⟨W.heap.size + 1, 2, none⟩ = some v3 ∧ DkHas u (W.heap.size + 2) (.agg #[v1, v2, v3]) d ∧ (d.safe = [] ∨ ApV (.agg #[v1, v2, v3]))
  nf : ∀ o, u.frozen? ⟨W.heap.size + 1, o, none⟩ = false
  gb : ∃ c t, u.heap[W.heap.size + 1]? = some (.cells c 27 t)
  p0 : u.cell? ⟨W.heap.size, 0, none⟩ = some (.slice none 0 0)
  p1 : u.cell? ⟨W.heap.size, 1, none⟩ = some (.slice none 0 0)
  p2 : u.cell? ⟨W.heap.size, 2, none⟩ = some (.slice none 0 0)
  pf : ∀ o, u.frozen? ⟨W.heap.size, o, none⟩ = false
  ok : diskB d = true
  lil : DkLil d
theorem DdI.lt {W u : World} {r : Nat} {A : Option Addr} {len cap : Nat} {d : DK} (h : DdI W r A len cap d u) : W.heap.size + 1 < u.heap.size := by
  obtain ⟨c, t, h⟩ := h.gb
  exact (Array.getElem?_eq_some_iff.1 h).1
theorem DdI.upd {W u u' : World} {r : Nat} {A : Option Addr} {len cap : Nat} {d : DK} (h : DdI W r A len cap d u) (hr : r < W.heap.size) (hu : UpdG r u u') (hrd : Rd u' r A len cap) : DdI W r A len cap d u' := by
  have hl := h.lt
  obtain ⟨_, up, ⟨v1, v2, v3, c0, c1, c2, hh, ha⟩, nf, ⟨c, t, gb⟩, p0, p1, p2, pf, ok, lil⟩ := h
  have k1 : ∀ o, u'.cell? ⟨W.heap.size + 1, o, none⟩ = u.cell? ⟨W.heap.size + 1, o, none⟩ := fun o => hu.1.1 _ o hl (by omega)
  have k0 : ∀ o, u'.cell? ⟨W.heap.size, o, none⟩ = u.cell? ⟨W.heap.size, o, none⟩ := fun o => hu.1.1 _ o (by omega) (by omega)
  exact ⟨hrd, up.trans hu, ⟨v1, v2, v3, (k1 0).trans c0, (k1 1).trans c1, (k1 2).trans c2, hh.upd hu (by omega), ha⟩, fun o => (hu.1.2.1 _ o hl (by omega)).trans (nf o), ⟨c, t, (hu.2.block _ hl (by intro e; cases e; omega)).trans gb⟩, (k0 0).trans p0, (k0 1).trans p1, (k0 2).trans p2, fun o => (hu.1.2.1 _ o (by omega) (by omega)).trans (pf o), ok, lil⟩
theorem DdI.below {W u u' : World} {r : Nat} {A : Option Addr} {len cap : Nat} {d : DK} (h : DdI W r A len cap d u) (hr : r < W.heap.size) (hb : Below u.heap.size u u') : DdI W r A len cap d u' :=
  h.upd hr (UpdG.of_below (by have := h.lt; omega) hb) (h.rd.below hb)
/-- Another disk is put into the box. -/
theorem DdI.put {W u : World} {r : Nat} {A : Option Addr} {len cap : Nat} {d d' : DK} {D1 D2 D3 : Value} (h : DdI W r A len cap d u) (hr : r < W.heap.size) (hA : 0 < len → ∀ x, A = some x → x.block < W.heap.size)
    (hh : DkHas u (W.heap.size + 2) (.agg #[D1, D2, D3]) d') (ha : d'.safe = [] ∨ ApV (.agg #[D1, D2, D3])) (ok : diskB d' = true) (lil : DkLil d') :
    DdI W r A len cap d' (((u.setCell ⟨W.heap.size + 1, 0, none⟩ D1).setCell ⟨W.heap.size + 1, 1, none⟩ D2).setCell ⟨W.heap.size + 1, 2, none⟩ D3) := by
  obtain ⟨rd, up, ⟨v1, v2, v3, c0, c1, c2, _, _⟩, nf, ⟨c, t, gb⟩, p0, p1, p2, pf, _, _⟩ := h
  obtain ⟨c', h1⟩ := set_blk (o := 0) (x := D1) gb
  obtain ⟨c'', h2⟩ := set_blk (o := 1) (x := D2) h1
  obtain ⟨c3, h3⟩ := set_blk (o := 2) (x := D3) h2
  have hne : ¬ W.heap.size + 1 = r := by omega
  have kk : ∀ o, (((u.setCell ⟨W.heap.size + 1, 0, none⟩ D1).setCell ⟨W.heap.size + 1, 1, none⟩ D2).setCell ⟨W.heap.size + 1, 2, none⟩ D3).cell? ⟨W.heap.size, o, none⟩ = u.cell? ⟨W.heap.size, o, none⟩ := fun o => by
    rw [World.cell?_setCell_other _ _ _ _ (by intro e; have := congrArg Addr.block e; simp at this), World.cell?_setCell_other _ _ _ _ (by intro e; have := congrArg Addr.block e; simp at this), World.cell?_setCell_other _ _ _ _ (by intro e; have := congrArg Addr.block e; simp at this)]
  obtain ⟨b0, b1, b2⟩ := box_cells (v1 := D1) (v2 := D2) (v3 := D3) c0 c1 c2
  refine ⟨((rd.store hA (Nat.le_succ _) hne).store hA (Nat.le_succ _) hne).store hA (Nat.le_succ _) hne, ((up.fresh (Nat.le_succ _) hr).fresh (Nat.le_succ _) hr).fresh (Nat.le_succ _) hr, ⟨D1, D2, D3, b0, b1, b2, hh.setBox3 gb, ha⟩, fun o => by rw [frozen_set, frozen_set, frozen_set]; exact nf o, ⟨c3, t, h3⟩, (kk 0).trans p0, (kk 1).trans p1, (kk 2).trans p2, fun o => by rw [frozen_set, frozen_set, frozen_set]; exact pf o, ok, lil⟩
theorem sdS {r : Nat} {u1 u : World} (h : UpdG r u1 u) : (∀ bq oq, bq < u1.heap.size → ¬ bq = r → u.cell? ⟨bq, oq, none⟩ = u1.cell? ⟨bq, oq, none⟩) ∧ u1.heap.size ≤ u.heap.size := ⟨fun b o hb hn => h.1.1 b o hb hn, h.1.2.2.1⟩
theorem boxU {u u' : World} {r g : Nat} (h : BoxZ u g) (hu : UpdG r u u') (hn : ¬ g = r) : BoxZ u' g := by
  have hl := h.lt
  obtain ⟨c0, c1, c2, nf, ⟨c, t, gb⟩⟩ := h
  exact ⟨(hu.1.1 g 0 hl hn).trans c0, (hu.1.1 g 1 hl hn).trans c1, (hu.1.1 g 2 hl hn).trans c2, fun o => (hu.1.2.1 g o hl hn).trans (nf o), ⟨c, t, (hu.2.block g hl (fun e => hn (Option.some.inj e))).trans gb⟩⟩
theorem UpdG.fresh2 {r b o : Nat} {W w1 : World} {v : Value} (h : UpdG r W w1) (hb : W.heap.size ≤ b) (hr : r < W.heap.size) : UpdG r W (w1.setCell ⟨b, o, none⟩ v) := h.fresh hb hr
theorem ddSet3 {W u : World} {r g : Nat} {A : Option Addr} {len cap : Nat} {d : DK} {D1 D2 D3 : Value} (h : DdI W r A len cap d u) (hr : r < W.heap.size) (hA : 0 < len → ∀ x, A = some x → x.block < W.heap.size) (hz : BoxZ u g) (hg : W.heap.size + 2 ≤ g) :
    DdI W r A len cap d (((u.setCell ⟨g, 0, none⟩ D1).setCell ⟨g, 1, none⟩ D2).setCell ⟨g, 2, none⟩ D3) := by
  obtain ⟨rd, up, ⟨v1, v2, v3, c0, c1, c2, hh, ha⟩, nf, ⟨c, t, gb⟩, p0, p1, p2, pf, ok, lil⟩ := h
  obtain ⟨cz, tz, gz⟩ := hz.gb
  have kk : ∀ b o, b < g → (((u.setCell ⟨g, 0, none⟩ D1).setCell ⟨g, 1, none⟩ D2).setCell ⟨g, 2, none⟩ D3).cell? ⟨b, o, none⟩ = u.cell? ⟨b, o, none⟩ := fun b o hb => by
    rw [World.cell?_setCell_other _ _ _ _ (by intro e; have := congrArg Addr.block e; simp at this; omega), World.cell?_setCell_other _ _ _ _ (by intro e; have := congrArg Addr.block e; simp at this; omega), World.cell?_setCell_other _ _ _ _ (by intro e; have := congrArg Addr.block e; simp at this; omega)]
  have hne : ¬ g = r := by omega
  refine ⟨((rd.store hA (by omega) hne).store hA (by omega) hne).store hA (by omega) hne, ((up.fresh (by omega) hr).fresh (by omega) hr).fresh (by omega) hr, ⟨v1, v2, v3, (kk _ _ (by omega)).trans c0, (kk _ _ (by omega)).trans c1, (kk _ _ (by omega)).trans c2, hh.setBox3 gz, ha⟩, fun o => by rw [frozen_set, frozen_set, frozen_set]; exact nf o, ⟨c, t, ?_⟩, (kk _ _ (by omega)).trans p0, (kk _ _ (by omega)).trans p1, (kk _ _ (by omega)).trans p2, fun o => by rw [frozen_set, frozen_set, frozen_set]; exact pf o, ok, lil⟩
  rw [Below.heap_setCell _ _ _ _ (by show W.heap.size + 1 ≠ g; omega), Below.heap_setCell _ _ _ _ (by show W.heap.size + 1 ≠ g; omega), Below.heap_setCell _ _ _ _ (by show W.heap.size + 1 ≠ g; omega)]
  exact gb
theorem Rd.belowB {u u' : World} {r B : Nat} {A : Option Addr} {len cap : Nat} (h : Rd u r A len cap) (hA : 0 < len → ∀ x, A = some x → x.block < B) (hr : r < B) (hb : Below B u u') : Rd u' r A len cap := by
  obtain ⟨h0, h1, h2, h3, p, hp, h4⟩ := h
  refine ⟨h0, fun i hi => ?_, (hb.cell (p := ⟨r, 0, none⟩) hr).trans h2, (hb.frozen (p := ⟨r, 1, none⟩) hr).trans h3, p, hp, (hb.cell (p := ⟨r, 1, none⟩) hr).trans h4⟩
  obtain ⟨b, o, v, e, hn, c, v0⟩ := h1 i hi
  exact ⟨b, o, v, e, hn, (hb.cell (p := ⟨b, o + i, none⟩) (show b < B from hA (by omega) ⟨b, o, none⟩ e)).trans c, v0⟩
theorem UpdG.belowW {W u u' : World} {r B : Nat} (h : UpdG r W u) (hb : Below B u u') (hB : W.heap.size ≤ B) (hr : r < W.heap.size) : UpdG r W u' :=
  ⟨⟨fun b o hb' hn => (hb.cell (p := ⟨b, o, none⟩) (by show b < B; omega)).trans (h.1.1 b o hb' hn), fun b o hb' hn => (hb.frozen (p := ⟨b, o, none⟩) (by show b < B; omega)).trans (h.1.2.1 b o hb' hn), Nat.le_trans h.1.2.2.1 hb.size, h.1.2.2.2.trans (hb.mono (by omega))⟩,
    ⟨hb.os.trans h.2.os, hb.tape.trans h.2.tape, hb.output.trans h.2.output, Nat.le_trans h.2.size hb.size, fun k hk hn => (hb.block k (by omega)).trans (h.2.block k hk hn)⟩⟩
theorem RowAt.set3B {α : Type} {k : Nat} {f : α → List Value} {u : World} {A : Option Addr} {L : List α} {g B : Nat} (h : RowAt k f u A L) (hA : ∀ b o, A = some ⟨b, o, none⟩ → B ≤ b) (hg : g < B) (x y z : Value) : RowAt k f (((u.setCell ⟨g, 0, none⟩ x).setCell ⟨g, 1, none⟩ y).setCell ⟨g, 2, none⟩ z) A L := by
  refine ⟨h.1, fun i v hv => ?_⟩
  obtain ⟨b, o, e, hl, hc⟩ := h.2 i v hv
  have hB := hA b o e
  refine ⟨b, o, e, by simpa using hl, fun j w hw => ?_⟩
  rw [World.cell?_setCell_other _ _ _ _ (by intro e9; have := congrArg Addr.block e9; simp at this; omega), World.cell?_setCell_other _ _ _ _ (by intro e9; have := congrArg Addr.block e9; simp at this; omega), World.cell?_setCell_other _ _ _ _ (by intro e9; have := congrArg Addr.block e9; simp at this; omega)]
  exact hc j w hw
theorem RowAt.set1B {α : Type} {k : Nat} {f : α → List Value} {u : World} {A : Option Addr} {L : List α} {g B : Nat} (h : RowAt k f u A L) (hA : ∀ b o, A = some ⟨b, o, none⟩ → B ≤ b) (hg : g < B) (p : Nat) (x : Value) : RowAt k f (u.setCell ⟨g, p, none⟩ x) A L := by
  refine ⟨h.1, fun i v hv => ?_⟩
  obtain ⟨b, o, e, hl, hc⟩ := h.2 i v hv
  have hB := hA b o e
  refine ⟨b, o, e, by simpa using hl, fun j w hw => ?_⟩
  rw [World.cell?_setCell_other _ _ _ _ (by intro e9; have := congrArg Addr.block e9; simp at this; omega)]
  exact hc j w hw
theorem own_far {W : World} {B : Nat} {e : TypeId} {s n : Nat} {A : Option Addr} {c : Nat} {xs : List Value} (h : W.ownsRow B e s (.slice A n c) n xs) : ∀ b o, A = some ⟨b, o, none⟩ → B ≤ b := fun b o e9 => by
  subst e9
  exact (h.lt b rfl).1
section
variable {ops : Array Oper} {rest : List Oper} {o : Oper} {a : Act} {Q : Exit → Act → World → Prop}
/-- 'append(list, file)' onto a row of files that may lie anywhere. -/
theorem wpList_app_fiD {W : World} (hgd : o.guard = none) (s x : Operand) (ho : o.op = .call { callee := .builtin .append, args := #[s, x], argTypes := #[24, 24] }) (B : Nat) (v : Value) (n : Nat) (xs : List Value) (hs : a.eval s = v)
    (hown : W.ownsRow B 75 2 v n xs) (f : FI) (hx : a.eval x = .slice (some ⟨W.heap.size, 0, none⟩) 1 1) (hn : n ≤ 1099511627776) (hB : B ≤ W.heap.size)
    (h : ∀ v' w', w'.ownsRow B 75 2 v' (n + 1) (xs ++ fiL f) → (W.alloc (.cells #[.string f.n, .string f.d] 75)).grownBy w' v.ownBlock → wpList Try.prog ops Q rest (a.put o.dst v') w') :
    wpList Try.prog ops Q (o :: rest) a (W.alloc (.cells #[.string f.n, .string f.d] 75)) := by
  obtain ⟨i0, hi, iz0, iz1, iz2⟩ := info_parts infoFi
  refine wpList_append_own _ hgd _ _ 24 ho B 75 i0 (.agg #[.string ⟨#[]⟩, .string ⟨#[]⟩]) 2 32 Try.underlying24 hi iz0 iz1 iz2 rfl (by decide) v n xs hs (hown.alloc _) ⟨W.heap.size, 0, none⟩ 1 1 [.string f.n, .string f.d] hx rfl ?_ ?_ ?_ ?_ ?_ ?_
  · intro q u hq
    match q, hq with
    | 0, hq => simp at hq; subst hq; simp [Addr.add]
    | 1, hq => simp at hq; subst hq; simp [Addr.add]
  · intro u hu; simp at hu; rcases hu with rfl | rfl <;> rfl
  · unfold maxLen; omega
  · omega
  · simp; omega
  · intro v' w3 hown' hgrow _
    exact h v' w3 hown' hgrow
end
theorem ap_symm {a b : Option Nat} (h : a = none ∨ a ≠ b) : b = none ∨ b ≠ a := by
  cases b with
  | none => exact Or.inl rfl
  | some y =>
    right
    intro e
    rcases h with h | h
    · rw [h] at e; cases e
    · exact h e.symm
theorem row_tail {u : World} {A : Option Addr} {L : List DP} (h : DpRow u A L) : DpRow u (Option.map (fun x => { block := x.block, off := x.off + 4 }) A) L.tail := by
  refine ⟨by have := h.1; rw [List.length_tail]; omega, fun i x hx => ?_⟩
  rw [List.getElem?_tail] at hx
  obtain ⟨b, o, e, hl, hc⟩ := h.2 (i + 1) x hx
  refine ⟨b, o + 4, by rw [e]; rfl, hl, fun j v hv => ?_⟩
  rw [show o + 4 + i * 4 + j = o + (i + 1) * 4 + j by omega]
  exact hc j v hv
theorem own_cap {W : World} {B : Nat} {e : TypeId} {s n : Nat} {A : Option Addr} {c : Nat} {xs : List Value} (h : W.ownsRow B e s (.slice A n c) n xs) : n ≤ c := by
  rcases h.2 with ⟨e1, _⟩ | ⟨g, cap, cur, e1, _, _, h1, _⟩
  · simp only [Value.slice.injEq] at e1; omega
  · simp only [Value.slice.injEq] at e1; obtain ⟨_, _, rfl⟩ := e1; exact h1
theorem infoU8D : (Try.prog.info? 5).map (fun i => (i.zero, i.size, i.bytes)) = some (some (.int .u8 0), 1, 1) := by kernel_rfl
/-- Bytes. -/
def BysD (xs : List Value) : Prop := ∃ l : List Int, xs = l.map (Value.int .u8)
theorem push_sizeD : ∀ (l : List Int) (r : ByteArray), (l.foldl (fun r n => r.push (UInt8.ofNat n.toNat)) r).size = r.size + l.length
  | [], r => rfl
  | n :: l, r => by rw [List.foldl_cons, push_sizeD l, ByteArray.size_push, List.length_cons]; omega
theorem conv_rowD {W : World} {B k : Nat} {v : Value} {xs : List Value} (h : W.ownsRow B 5 1 v k xs) (hb : BysD xs) : ∃ s : ByteArray, s.size = k ∧ (convert 22 9 v).run Try.prog W = .ok (.string s) W := by
  obtain ⟨l, rfl⟩ := hb
  have hl : l.length = k := by have := h.1; simpa using this
  rcases h.2 with ⟨rfl, rfl⟩ | ⟨g, cap, cur, rfl, _⟩
  · refine ⟨⟨#[]⟩, rfl, ?_⟩
    rw [run_convert_bytes_string W 22 9 5 none 0 0 Try.underlying22 Try.underlying5 Try.underlying9]
    rfl
  · rw [run_convert_bytes_string W 22 9 5 (some ⟨g, 0, none⟩) k cap Try.underlying22 Try.underlying5 Try.underlying9]
    have hc := run_loadCells_list (P := Try.prog) W ⟨g, 0, none⟩ (l.map (Value.int .u8)) (fun j x hj => h.cells (g := g) rfl j x hj)
    rw [run_bytesToString W ⟨g, 0, none⟩ k cap l (by simpa [hl] using hc)]
    exact ⟨_, by rw [push_sizeD]; rw [hl]; exact Nat.zero_add _, rfl⟩


/-- A disk's rows, all of them in blocks from B on. -/
def DkRowF (w : World) (B : Nat) (v : Value) (d : DK) : Prop := ∃ A1 c1 A2 c2 A3 c3, v = .agg #[.slice A1 d.live.length c1, .slice A2 d.safe.length c2, .slice A3 d.ops.length c3] ∧ FiRow w A1 d.live ∧ FiRow w A2 d.safe ∧ DpRow w A3 d.ops ∧ (A1 = none → c1 = 0) ∧ (A2 = none → c2 = 0) ∧ (A3 = none → c3 = 0) ∧
  (∀ b o, A1 = some ⟨b, o, none⟩ → B ≤ b) ∧ (∀ b o, A2 = some ⟨b, o, none⟩ → B ≤ b) ∧ (∀ b o, A3 = some ⟨b, o, none⟩ → B ≤ b)
theorem DkRowF.row {w : World} {B : Nat} {v : Value} {d : DK} (h : DkRowF w B v d) : DkRow w v d := by
  obtain ⟨A1, c1, A2, c2, A3, c3, e, h1, h2, h3, z1, z2, z3, _⟩ := h
  exact ⟨A1, c1, A2, c2, A3, c3, e, h1, h2, h3, z1, z2, z3⟩
theorem DkRowF.set {w : World} {B g : Nat} {v : Value} {d : DK} (h : DkRowF w B v d) (hg : g < B) (o : Nat) (x : Value) : DkRowF (w.setCell ⟨g, o, none⟩ x) B v d := by
  obtain ⟨A1, c1, A2, c2, A3, c3, e, h1, h2, h3, z1, z2, z3, f1, f2, f3⟩ := h
  exact ⟨A1, c1, A2, c2, A3, c3, e, h1.set1B f1 hg o x, h2.set1B f2 hg o x, h3.set1B f3 hg o x, z1, z2, z3, f1, f2, f3⟩
theorem DkRowF.below {w w' : World} {B : Nat} {v : Value} {d : DK} (h : DkRowF w B v d) (hb : Below w.heap.size w w') : DkRowF w' B v d := by
  obtain ⟨A1, c1, A2, c2, A3, c3, e, h1, h2, h3, z⟩ := h
  exact ⟨A1, c1, A2, c2, A3, c3, e, h1.below hb, h2.below hb, h3.below hb, z⟩
theorem DkHas.rowF {w : World} {B : Nat} {v : Value} {d : DK} (h : DkHas w B v d) : DkRowF w B v d := by
  obtain ⟨v1, v2, v3, rfl, h1, h2, h3⟩ := h
  obtain ⟨A1, c1, rfl, _, _⟩ := own_shape h1
  obtain ⟨A2, c2, rfl, _, _⟩ := own_shape h2
  obtain ⟨A3, c3, rfl, _, _⟩ := own_shape h3
  exact ⟨A1, c1, A2, c2, A3, c3, rfl, RowAt.of_own fiL_len h1 rfl, RowAt.of_own fiL_len h2 rfl, RowAt.of_own dpL_len h3 rfl, own_nocap h1, own_nocap h2, own_nocap h3, own_far h1, own_far h2, own_far h3⟩
def zzF : FI := ⟨⟨#[122, 122]⟩, ⟨#[]⟩⟩
theorem dk0_ok : diskB dk0 = true := by decide
theorem dk0_lil : DkLil dk0 := ⟨fun x hx => (by cases hx), fun x hx => (by cases hx), fun x hx => (by cases hx), Nat.zero_le _, Nat.zero_le _, Nat.zero_le _⟩
theorem sy_ok {d : DK} (h : diskB d = true) : diskB (syD d) = true := by
  obtain ⟨q1, _, _⟩ := disk_parts h
  rw [syD, if_pos h]
  simp only [diskB, Bool.and_eq_true, decide_eq_true_eq]
  exact ⟨q1, q1, by simp, by simp only [runO]; exact sameB_iff.2 rfl⟩
theorem sy_lil {d : DK} (h : diskB d = true) (hl : DkLil d) : DkLil (syD d) := by
  rw [syD, if_pos h]
  exact ⟨hl.l1, hl.l1, fun x hx => (by cases hx), hl.n1, hl.n1, Nat.zero_le _⟩
set_option maxRecDepth 100000 in
set_option maxHeartbeats 16000000 in
theorem rd_diskL (r : Nat) (A : Option Addr) (len cap : Nat) (W : World) (h : Rd W r A len cap) : Calls Try.prog 40 #[.pointer (some ⟨r, 0, none⟩)] W fun e w' =>
    ∃ v d, e = .returned v ∧ DkRowF w' (W.heap.size + 2) v d ∧ DkLil d ∧ Rd w' r A len cap ∧ UpdG r W w' := by
  have HH : Hid (Rd W r A len cap) := h
  have hrl := h.lt
  have HA : Hid (0 < len → ∀ x, A = some x → x.block < W.heap.size) := h.inW
  have hrn : ¬ W.heap.size + 1 = r := by omega
  have hrn0 : ¬ W.heap.size = r := by omega
  clear h
  go_enter Try.func40, Try.ntmps40
  go_wp2_with fail
  refine (rd_sizeD r A len cap _ (HH.out.below (by go_grown))).mono ?_
  rintro e w1 ⟨k0, rfl, hk0, hr, hu⟩
  have HI1 : Hid (DdI W r A len cap dk0 w1) := by
    have h0 : DdI W r A len cap dk0 ((W.alloc (.cells #[.slice none 0 0, .slice none 0 0, .slice none 0 0] 27)).alloc (.cells #[.slice none 0 0, .slice none 0 0, .slice none 0 0] 27)) :=
      ⟨HH.out.below (by go_grown), UpdG.of_below (by omega) (by go_grown), ⟨_, _, _, by go_simp, by go_simp, by go_simp, has_dk0, Or.inl rfl⟩, fun o => by go_simp, ⟨_, _, blk_at (by simp)⟩, by go_simp, by go_simp, by go_simp, fun o => by go_simp, dk0_ok, dk0_lil⟩
    exact h0.upd hrl hu hr
  clear hr hu
  go_wp2_with fail
  go_loopw [4] (fun i wr => ∃ (k : Nat) (d : DK), k ≤ 10 ∧ i = .int .i64 k ∧ DdI W r A len cap d wr) (fun i _ => (intOf i).toNat)
  case atStart => exact ⟨k0, dk0, hk0, rfl, HI1.out⟩
  case round =>
    obtain ⟨k, d, hk, rfl, hI⟩ := hrel
    have HI : Hid (DdI W r A len cap d wr) := hI
    clear hI
    by_cases hk1 : 0 < k
    · obtain ⟨s, rfl⟩ : ∃ s, k = s + 1 := ⟨k - 1, by omega⟩
      have hk2 : (0 : Int) < (s : Int) + 1 := by omega
      go_wp2_with fail
      refine (rd_onceG r A len cap 5 _ HI.out.rd (by omega) (by omega)).mono ?_
      rintro e u1 ⟨b, rfl, hr, hu⟩
      have J1 : Hid (DdI W r A len cap d u1) := HI.out.upd hrl hu hr
      clear hr hu
      obtain ⟨v1, v2, v3, c0, c1, c2, hh, ha⟩ := J1.out.ex
      obtain ⟨a1, a2, a3, ac1, ac2, ac3, an1, an2, an3, ee⟩ := hh.row.agg
      cases ee
      have HH1 : Hid (DkHas u1 (W.heap.size + 2) (.agg #[.slice a1 an1 ac1, .slice a2 an2 ac2, .slice a3 an3 ac3]) d) := hh
      have nf := J1.out.nf
      have l1 : W.heap.size + 1 < u1.heap.size := J1.out.lt
      clear hh ha
      cases b
      · go_wp2_with fail
        go_upto_region 7 with fail
        go_cut [5, 6] from 10 to 27 (fun v5 v6 wx => ∃ q x b1 b2 b3 l1 l2 l3 q1 q2 q3, v5 = .pointer (some ⟨q, 0, none⟩) ∧ v6 = .int .i64 (sdK d x) ∧ dpLil x ∧ DdI W r A len cap d wx ∧ W.heap.size + 2 ≤ q ∧ wx.cell? ⟨q, 0, none⟩ = some (.slice b1 l1 q1) ∧ wx.cell? ⟨q, 1, none⟩ = some (.slice b2 l2 q2) ∧ wx.cell? ⟨q, 2, none⟩ = some (.slice b3 l3 q3) ∧ DkHas wx (W.heap.size + 2) (.agg #[.slice b1 l1 q1, .slice b2 l2 q2, .slice b3 l3 q3]) (sdD d x) ∧ (sdK d x = 0 → ApV (.agg #[.slice b1 l1 q1, .slice b2 l2 q2, .slice b3 l3 q3])))
        case first =>
          have KQ : Hid (DdI W r A len cap d u1.drew) := J1.out.below hrl (Below.refl _ _).drew
          have UQ : UpdG r u1 u1.drew := UpdG.of_below (by omega) (Below.refl _ _).drew
          have hlr : ¬ W.heap.size + 1 = r := by omega
          refine wp_region_held_drew (S := (fun w' => (∀ bq oq, bq < u1.heap.size → ¬ bq = r → w'.cell? ⟨bq, oq, none⟩ = u1.cell? ⟨bq, oq, none⟩) ∧ u1.heap.size ≤ w'.heap.size)) (by kernel_rfl) (sdS UQ) (fun hHeld => ?_)
          refine wpAnyH_take (i := 0) (v := ?_) rfl (by kernel_rfl) (by kernel_rfl) (by kernel_rfl) (fun _ _ _ h => h) (Or.inl ⟨by rfl, ?_⟩) (by assumption) ?_
          rotate_left
          · (intro wq hSw; (try dsimp only at hSw); go_simp <;> with_reducible rfl)
          try simp only [Act.put, List.getElem_toArray, List.getElem_cons_zero, List.getElem_cons_succ, List.setIfInBounds_toArray, List.set_cons_zero, List.set_cons_succ]
          refine wpAnyH_take (i := 1) (v := ?_) rfl (by kernel_rfl) (by kernel_rfl) (by kernel_rfl) (fun _ _ _ h => h) (Or.inl ⟨by rfl, ?_⟩) (by assumption) ?_
          rotate_left
          · (intro wq hSw; (try dsimp only at hSw); go_simp <;> with_reducible rfl)
          try simp only [Act.put, List.getElem_toArray, List.getElem_cons_zero, List.getElem_cons_succ, List.setIfInBounds_toArray, List.set_cons_zero, List.set_cons_succ]
          refine wpAnyH_ready (rs := [2, 7]) (by kernel_rfl) (by simp) (AllReadyH.cons rfl (fun Kq hKq => ?_) (AllReadyH.cons rfl (fun Kq hKq => ?_) (AllReadyH.nil)))
          · go_simp
            refine (rd_dopD r A len cap _ KQ.out.rd).mono ?_
            rintro e q1 ⟨x, rfl, hx, hr, hu⟩
            have HX : Hid (dpLil x) := hx
            have J_1 : Hid (DdI W r A len cap d q1) := KQ.out.upd hrl hu hr
            have U_1 : UpdG r u1 q1 := UQ.trans hu
            have HH_1 : Hid (DkHas q1 (W.heap.size + 2) (.agg #[.slice a1 an1 ac1, .slice a2 an2 ac2, .slice a3 an3 ac3]) d) := (HH1.out.upd U_1 (by omega))
            clear hx hr hu
            refine hKq.out _ _ ?_ (fun hHeld => ?_)
            · exact sdS U_1
            clear hKq Kq
            try simp only [Act.put, List.getElem_toArray, List.getElem_cons_zero, List.getElem_cons_succ, List.setIfInBounds_toArray, List.set_cons_zero, List.set_cons_succ]
            refine wpAnyH_ready (rs := [3, 7]) (by kernel_rfl) (by simp) (AllReadyH.cons rfl (fun Kq hKq => ?_) (AllReadyH.cons rfl (fun Kq hKq => ?_) (AllReadyH.nil)))
            · go_simp
              refine (spec_DoP x _ (HH1.out.upd U_1 (by omega)).row J1.out.lil HX.out).mono ?_
              rintro e q2 ⟨vn, rfl, ho, hb, hap⟩
              have ln2 : W.heap.size + 1 < q1.heap.size := J_1.out.lt
              obtain ⟨x1, x2, x3, rfl, o1, o2, o3⟩ := ho
              obtain ⟨D1, t1, rfl, y1, y2⟩ := own_shape o1
              clear y1 y2
              obtain ⟨D2, t2, rfl, y1, y2⟩ := own_shape o2
              clear y1 y2
              obtain ⟨D3, t3, rfl, y1, y2⟩ := own_shape o3
              clear y1 y2
              have hu : UpdG r q1 q2 := UpdG.of_below (by omega) hb
              have J_2 : Hid (DdI W r A len cap d q2) := J_1.out.below hrl hb
              have U_2 : UpdG r u1 q2 := U_1.trans hu
              have HR_2 : Hid (DkHas q2 (W.heap.size + 2) (.agg #[.slice D1 (sdD d x).live.length t1, .slice D2 (sdD d x).safe.length t2, .slice D3 (sdD d x).ops.length t3]) (sdD d x)) := ⟨_, _, _, rfl, own_mono o1 (by omega), own_mono o2 (by omega), own_mono o3 (by omega)⟩
              have HAP : Hid (sdK d x = 0 → ApV (.agg #[.slice D1 (sdD d x).live.length t1, .slice D2 (sdD d x).safe.length t2, .slice D3 (sdD d x).ops.length t3])) := hap
              clear hb hu hap o1 o2 o3
              refine hKq.out _ _ ?_ (fun hHeld => ?_)
              · exact sdS U_2
              clear hKq Kq
              try simp only [Act.put, List.getElem_toArray, List.getElem_cons_zero, List.getElem_cons_succ, List.setIfInBounds_toArray, List.set_cons_zero, List.set_cons_succ]
              refine wpAnyH_take (i := 4) (v := ?_) rfl (by kernel_rfl) (by kernel_rfl) (by kernel_rfl) (fun _ _ _ h => h) (Or.inl ⟨by rfl, ?_⟩) (by assumption) ?_
              rotate_left
              · (intro wq hSw; (try dsimp only at hSw); go_simp <;> with_reducible rfl)
              try simp only [Act.put, List.getElem_toArray, List.getElem_cons_zero, List.getElem_cons_succ, List.setIfInBounds_toArray, List.set_cons_zero, List.set_cons_succ]
              refine wpAnyH_take (i := 5) (v := ?_) rfl (by kernel_rfl) (by kernel_rfl) (by kernel_rfl) (fun _ _ _ h => h) (Or.inl ⟨by rfl, ?_⟩) (by assumption) ?_
              rotate_left
              · (intro wq hSw; (try dsimp only at hSw); go_simp <;> with_reducible rfl)
              try simp only [Act.put, List.getElem_toArray, List.getElem_cons_zero, List.getElem_cons_succ, List.setIfInBounds_toArray, List.set_cons_zero, List.set_cons_succ]
              refine wpAnyH_take (i := 6) (v := ?_) rfl (by kernel_rfl) (by kernel_rfl) (by kernel_rfl) (fun _ _ _ h => h) (Or.inl ⟨by rfl, ?_⟩) (by assumption) ?_
              rotate_left
              · (intro wq hSw; (try dsimp only at hSw); go_simp <;> with_reducible rfl)
              try simp only [Act.put, List.getElem_toArray, List.getElem_cons_zero, List.getElem_cons_succ, List.setIfInBounds_toArray, List.set_cons_zero, List.set_cons_succ]
              refine wpAnyH_ready (rs := [7]) (by kernel_rfl) (by simp) (AllReadyH.cons rfl (fun Kq hKq => ?_) (AllReadyH.nil))
              go_simp
              obtain ⟨q3, HQ3⟩ : ∃ q, Hid ((q2.alloc (.cells #[.slice none 0 0, .slice none 0 0, .slice none 0 0] 27)) = q) := ⟨_, rfl⟩
              rw [HQ3.out]
              have hb : Below q2.heap.size q2 q3 := by rw [← HQ3.out]; exact (Below.refl _ _).alloc (Nat.le_refl _) _
              have ln3 : W.heap.size + 1 < q2.heap.size := J_2.out.lt
              have hu : UpdG r q2 q3 := UpdG.of_below (by first | omega | (simp; omega)) hb
              have J_3 : Hid (DdI W r A len cap d q3) := J_2.out.below hrl hb
              have U_3 : UpdG r u1 q3 := U_2.trans hu
              have Z_3 : Hid (BoxZ q3 q2.heap.size) := by rw [← HQ3.out]; exact BoxZ.at
              have hlo : W.heap.size + 2 ≤ q2.heap.size := by omega
              have HR_3 : Hid (DkHas q3 (W.heap.size + 2) (.agg #[.slice D1 (sdD d x).live.length t1, .slice D2 (sdD d x).safe.length t2, .slice D3 (sdD d x).ops.length t3]) (sdD d x)) := HR_2.out.below hb
              clear hb hu
              refine hKq.out _ _ ?_ (fun hHeld => ?_)
              · exact sdS U_3
              clear hKq Kq
              try simp only [Act.put, List.getElem_toArray, List.getElem_cons_zero, List.getElem_cons_succ, List.setIfInBounds_toArray, List.set_cons_zero, List.set_cons_succ]
              refine wpAnyH_ready (rs := [8]) (by kernel_rfl) (by simp) (AllReadyH.cons rfl (fun Kq hKq => ?_) (AllReadyH.nil))
              have z0 := Z_3.out.c0
              have z1 := Z_3.out.c1
              have z2 := Z_3.out.c2
              have zf := Z_3.out.nf
              have zl := Z_3.out.lt
              have EE : Hid (DdI W r A len cap d (((q3.setCell ⟨q2.heap.size, 0, none⟩ (.slice D1 (sdD d x).live.length t1)).setCell ⟨q2.heap.size, 1, none⟩ (.slice D2 (sdD d x).safe.length t2)).setCell ⟨q2.heap.size, 2, none⟩ (.slice D3 (sdD d x).ops.length t3)) ∧ DkHas (((q3.setCell ⟨q2.heap.size, 0, none⟩ (.slice D1 (sdD d x).live.length t1)).setCell ⟨q2.heap.size, 1, none⟩ (.slice D2 (sdD d x).safe.length t2)).setCell ⟨q2.heap.size, 2, none⟩ (.slice D3 (sdD d x).ops.length t3)) (W.heap.size + 2) (.agg #[.slice D1 (sdD d x).live.length t1, .slice D2 (sdD d x).safe.length t2, .slice D3 (sdD d x).ops.length t3]) (sdD d x)) := ⟨ddSet3 J_3.out hrl HA.out Z_3.out (by omega), HR_3.out.setBox3 Z_3.out.gb.choose_spec.choose_spec⟩
              have EC := box_cells (v1 := .slice D1 (sdD d x).live.length t1) (v2 := .slice D2 (sdD d x).safe.length t2) (v3 := .slice D3 (sdD d x).ops.length t3) z0 z1 z2
              have UE : UpdG r u1 (((q3.setCell ⟨q2.heap.size, 0, none⟩ (.slice D1 (sdD d x).live.length t1)).setCell ⟨q2.heap.size, 1, none⟩ (.slice D2 (sdD d x).safe.length t2)).setCell ⟨q2.heap.size, 2, none⟩ (.slice D3 (sdD d x).ops.length t3)) := ((U_3.fresh2 (by omega) (by omega)).fresh2 (by omega) (by omega)).fresh2 (by omega) (by omega)
              go_simp
              refine hKq.out _ _ ?_ (fun hHeld => ?_)
              · exact sdS UE
              clear hKq Kq
              try simp only [Act.put, List.getElem_toArray, List.getElem_cons_zero, List.getElem_cons_succ, List.setIfInBounds_toArray, List.set_cons_zero, List.set_cons_succ]
              refine wpAnyH_take (i := 9) (v := ?_) rfl (by kernel_rfl) (by kernel_rfl) (by kernel_rfl) (fun _ _ _ h => h) (Or.inl ⟨by rfl, ?_⟩) (by assumption) ?_
              rotate_left
              · (intro wq hSw; (try dsimp only at hSw); go_simp <;> with_reducible rfl)
              try simp only [Act.put, List.getElem_toArray, List.getElem_cons_zero, List.getElem_cons_succ, List.setIfInBounds_toArray, List.set_cons_zero, List.set_cons_succ]
              refine wpAnyH_done (by kernel_rfl) ?_ _
              clear hHeld
              go_wp2_with fail
              go_meet
              exact ⟨_, x, _, _, _, _, _, _, _, _, _, rfl, rfl, HX.out, EE.out.1, hlo, EC.1, EC.2.1, EC.2.2, EE.out.2, HAP.out⟩
            · go_simp
              obtain ⟨q4, HQ4⟩ : ∃ q, Hid ((q1.alloc (.cells #[.slice none 0 0, .slice none 0 0, .slice none 0 0] 27)) = q) := ⟨_, rfl⟩
              rw [HQ4.out]
              have hb : Below q1.heap.size q1 q4 := by rw [← HQ4.out]; exact (Below.refl _ _).alloc (Nat.le_refl _) _
              have ln4 : W.heap.size + 1 < q1.heap.size := J_1.out.lt
              have hu : UpdG r q1 q4 := UpdG.of_below (by first | omega | (simp; omega)) hb
              have J_4 : Hid (DdI W r A len cap d q4) := J_1.out.below hrl hb
              have U_4 : UpdG r u1 q4 := U_1.trans hu
              have Z_4 : Hid (BoxZ q4 q1.heap.size) := by rw [← HQ4.out]; exact BoxZ.at
              have hlo : W.heap.size + 2 ≤ q1.heap.size := by omega
              clear hb hu
              refine hKq.out _ _ ?_ (fun hHeld => ?_)
              · exact sdS U_4
              clear hKq Kq
              try simp only [Act.put, List.getElem_toArray, List.getElem_cons_zero, List.getElem_cons_succ, List.setIfInBounds_toArray, List.set_cons_zero, List.set_cons_succ]
              refine wpAnyH_ready (rs := [3]) (by kernel_rfl) (by simp) (AllReadyH.cons rfl (fun Kq hKq => ?_) (AllReadyH.nil))
              go_simp
              refine (spec_DoP x _ (HH1.out.upd U_4 (by omega)).row J1.out.lil HX.out).mono ?_
              rintro e q5 ⟨vn, rfl, ho, hb, hap⟩
              have ln5 : W.heap.size + 1 < q4.heap.size := J_4.out.lt
              obtain ⟨x1, x2, x3, rfl, o1, o2, o3⟩ := ho
              obtain ⟨D1, t1, rfl, y1, y2⟩ := own_shape o1
              clear y1 y2
              obtain ⟨D2, t2, rfl, y1, y2⟩ := own_shape o2
              clear y1 y2
              obtain ⟨D3, t3, rfl, y1, y2⟩ := own_shape o3
              clear y1 y2
              have hu : UpdG r q4 q5 := UpdG.of_below (by omega) hb
              have J_5 : Hid (DdI W r A len cap d q5) := J_4.out.below hrl hb
              have U_5 : UpdG r u1 q5 := U_4.trans hu
              have Z_5 : Hid (BoxZ q5 (q1.heap.size)) := boxU Z_4.out hu (by omega)
              have HR_5 : Hid (DkHas q5 (W.heap.size + 2) (.agg #[.slice D1 (sdD d x).live.length t1, .slice D2 (sdD d x).safe.length t2, .slice D3 (sdD d x).ops.length t3]) (sdD d x)) := ⟨_, _, _, rfl, own_mono o1 (by omega), own_mono o2 (by omega), own_mono o3 (by omega)⟩
              have HAP : Hid (sdK d x = 0 → ApV (.agg #[.slice D1 (sdD d x).live.length t1, .slice D2 (sdD d x).safe.length t2, .slice D3 (sdD d x).ops.length t3])) := hap
              clear hb hu hap o1 o2 o3
              refine hKq.out _ _ ?_ (fun hHeld => ?_)
              · exact sdS U_5
              clear hKq Kq
              try simp only [Act.put, List.getElem_toArray, List.getElem_cons_zero, List.getElem_cons_succ, List.setIfInBounds_toArray, List.set_cons_zero, List.set_cons_succ]
              refine wpAnyH_take (i := 4) (v := ?_) rfl (by kernel_rfl) (by kernel_rfl) (by kernel_rfl) (fun _ _ _ h => h) (Or.inl ⟨by rfl, ?_⟩) (by assumption) ?_
              rotate_left
              · (intro wq hSw; (try dsimp only at hSw); go_simp <;> with_reducible rfl)
              try simp only [Act.put, List.getElem_toArray, List.getElem_cons_zero, List.getElem_cons_succ, List.setIfInBounds_toArray, List.set_cons_zero, List.set_cons_succ]
              refine wpAnyH_take (i := 5) (v := ?_) rfl (by kernel_rfl) (by kernel_rfl) (by kernel_rfl) (fun _ _ _ h => h) (Or.inl ⟨by rfl, ?_⟩) (by assumption) ?_
              rotate_left
              · (intro wq hSw; (try dsimp only at hSw); go_simp <;> with_reducible rfl)
              try simp only [Act.put, List.getElem_toArray, List.getElem_cons_zero, List.getElem_cons_succ, List.setIfInBounds_toArray, List.set_cons_zero, List.set_cons_succ]
              refine wpAnyH_take (i := 6) (v := ?_) rfl (by kernel_rfl) (by kernel_rfl) (by kernel_rfl) (fun _ _ _ h => h) (Or.inl ⟨by rfl, ?_⟩) (by assumption) ?_
              rotate_left
              · (intro wq hSw; (try dsimp only at hSw); go_simp <;> with_reducible rfl)
              try simp only [Act.put, List.getElem_toArray, List.getElem_cons_zero, List.getElem_cons_succ, List.setIfInBounds_toArray, List.set_cons_zero, List.set_cons_succ]
              refine wpAnyH_ready (rs := [8]) (by kernel_rfl) (by simp) (AllReadyH.cons rfl (fun Kq hKq => ?_) (AllReadyH.nil))
              have z0 := Z_5.out.c0
              have z1 := Z_5.out.c1
              have z2 := Z_5.out.c2
              have zf := Z_5.out.nf
              have zl := Z_5.out.lt
              have EE : Hid (DdI W r A len cap d (((q5.setCell ⟨q1.heap.size, 0, none⟩ (.slice D1 (sdD d x).live.length t1)).setCell ⟨q1.heap.size, 1, none⟩ (.slice D2 (sdD d x).safe.length t2)).setCell ⟨q1.heap.size, 2, none⟩ (.slice D3 (sdD d x).ops.length t3)) ∧ DkHas (((q5.setCell ⟨q1.heap.size, 0, none⟩ (.slice D1 (sdD d x).live.length t1)).setCell ⟨q1.heap.size, 1, none⟩ (.slice D2 (sdD d x).safe.length t2)).setCell ⟨q1.heap.size, 2, none⟩ (.slice D3 (sdD d x).ops.length t3)) (W.heap.size + 2) (.agg #[.slice D1 (sdD d x).live.length t1, .slice D2 (sdD d x).safe.length t2, .slice D3 (sdD d x).ops.length t3]) (sdD d x)) := ⟨ddSet3 J_5.out hrl HA.out Z_5.out (by omega), HR_5.out.setBox3 Z_5.out.gb.choose_spec.choose_spec⟩
              have EC := box_cells (v1 := .slice D1 (sdD d x).live.length t1) (v2 := .slice D2 (sdD d x).safe.length t2) (v3 := .slice D3 (sdD d x).ops.length t3) z0 z1 z2
              have UE : UpdG r u1 (((q5.setCell ⟨q1.heap.size, 0, none⟩ (.slice D1 (sdD d x).live.length t1)).setCell ⟨q1.heap.size, 1, none⟩ (.slice D2 (sdD d x).safe.length t2)).setCell ⟨q1.heap.size, 2, none⟩ (.slice D3 (sdD d x).ops.length t3)) := ((U_5.fresh2 (by omega) (by omega)).fresh2 (by omega) (by omega)).fresh2 (by omega) (by omega)
              go_simp
              refine hKq.out _ _ ?_ (fun hHeld => ?_)
              · exact sdS UE
              clear hKq Kq
              try simp only [Act.put, List.getElem_toArray, List.getElem_cons_zero, List.getElem_cons_succ, List.setIfInBounds_toArray, List.set_cons_zero, List.set_cons_succ]
              refine wpAnyH_take (i := 9) (v := ?_) rfl (by kernel_rfl) (by kernel_rfl) (by kernel_rfl) (fun _ _ _ h => h) (Or.inl ⟨by rfl, ?_⟩) (by assumption) ?_
              rotate_left
              · (intro wq hSw; (try dsimp only at hSw); go_simp <;> with_reducible rfl)
              try simp only [Act.put, List.getElem_toArray, List.getElem_cons_zero, List.getElem_cons_succ, List.setIfInBounds_toArray, List.set_cons_zero, List.set_cons_succ]
              refine wpAnyH_done (by kernel_rfl) ?_ _
              clear hHeld
              go_wp2_with fail
              go_meet
              exact ⟨_, x, _, _, _, _, _, _, _, _, _, rfl, rfl, HX.out, EE.out.1, hlo, EC.1, EC.2.1, EC.2.2, EE.out.2, HAP.out⟩
          · go_simp
            obtain ⟨q6, HQ6⟩ : ∃ q, Hid ((u1.alloc (.cells #[.slice none 0 0, .slice none 0 0, .slice none 0 0] 27)).drew = q) := ⟨_, rfl⟩
            rw [HQ6.out]
            have hb : Below u1.drew.heap.size u1.drew q6 := by rw [← HQ6.out]; exact ⟨rfl, rfl, rfl, by simp, fun q hq => Below.heap_alloc u1 _ q hq⟩
            have ln6 : W.heap.size + 1 < u1.heap.size := J1.out.lt
            have hu : UpdG r u1.drew q6 := UpdG.of_below (by first | omega | (simp; omega)) hb
            have J_6 : Hid (DdI W r A len cap d q6) := KQ.out.below hrl hb
            have U_6 : UpdG r u1 q6 := UQ.trans hu
            have Z_6 : Hid (BoxZ q6 u1.heap.size) := by rw [← HQ6.out]; exact BoxZ.at.drew
            have hlo : W.heap.size + 2 ≤ u1.heap.size := by omega
            clear hb hu
            refine hKq.out _ _ ?_ (fun hHeld => ?_)
            · exact sdS U_6
            clear hKq Kq
            try simp only [Act.put, List.getElem_toArray, List.getElem_cons_zero, List.getElem_cons_succ, List.setIfInBounds_toArray, List.set_cons_zero, List.set_cons_succ]
            refine wpAnyH_ready (rs := [2]) (by kernel_rfl) (by simp) (AllReadyH.cons rfl (fun Kq hKq => ?_) (AllReadyH.nil))
            go_simp
            refine (rd_dopD r A len cap _ J_6.out.rd).mono ?_
            rintro e q7 ⟨x, rfl, hx, hr, hu⟩
            have HX : Hid (dpLil x) := hx
            have J_7 : Hid (DdI W r A len cap d q7) := J_6.out.upd hrl hu hr
            have U_7 : UpdG r u1 q7 := U_6.trans hu
            have Z_7 : Hid (BoxZ q7 (u1.heap.size)) := boxU Z_6.out hu (by omega)
            have HH_7 : Hid (DkHas q7 (W.heap.size + 2) (.agg #[.slice a1 an1 ac1, .slice a2 an2 ac2, .slice a3 an3 ac3]) d) := (HH1.out.upd U_7 (by omega))
            clear hx hr hu
            refine hKq.out _ _ ?_ (fun hHeld => ?_)
            · exact sdS U_7
            clear hKq Kq
            try simp only [Act.put, List.getElem_toArray, List.getElem_cons_zero, List.getElem_cons_succ, List.setIfInBounds_toArray, List.set_cons_zero, List.set_cons_succ]
            refine wpAnyH_ready (rs := [3]) (by kernel_rfl) (by simp) (AllReadyH.cons rfl (fun Kq hKq => ?_) (AllReadyH.nil))
            go_simp
            refine (spec_DoP x _ (HH1.out.upd U_7 (by omega)).row J1.out.lil HX.out).mono ?_
            rintro e q8 ⟨vn, rfl, ho, hb, hap⟩
            have ln8 : W.heap.size + 1 < q7.heap.size := J_7.out.lt
            obtain ⟨x1, x2, x3, rfl, o1, o2, o3⟩ := ho
            obtain ⟨D1, t1, rfl, y1, y2⟩ := own_shape o1
            clear y1 y2
            obtain ⟨D2, t2, rfl, y1, y2⟩ := own_shape o2
            clear y1 y2
            obtain ⟨D3, t3, rfl, y1, y2⟩ := own_shape o3
            clear y1 y2
            have hu : UpdG r q7 q8 := UpdG.of_below (by omega) hb
            have J_8 : Hid (DdI W r A len cap d q8) := J_7.out.below hrl hb
            have U_8 : UpdG r u1 q8 := U_7.trans hu
            have Z_8 : Hid (BoxZ q8 (u1.heap.size)) := boxU Z_7.out hu (by omega)
            have HR_8 : Hid (DkHas q8 (W.heap.size + 2) (.agg #[.slice D1 (sdD d x).live.length t1, .slice D2 (sdD d x).safe.length t2, .slice D3 (sdD d x).ops.length t3]) (sdD d x)) := ⟨_, _, _, rfl, own_mono o1 (by omega), own_mono o2 (by omega), own_mono o3 (by omega)⟩
            have HAP : Hid (sdK d x = 0 → ApV (.agg #[.slice D1 (sdD d x).live.length t1, .slice D2 (sdD d x).safe.length t2, .slice D3 (sdD d x).ops.length t3])) := hap
            clear hb hu hap o1 o2 o3
            refine hKq.out _ _ ?_ (fun hHeld => ?_)
            · exact sdS U_8
            clear hKq Kq
            try simp only [Act.put, List.getElem_toArray, List.getElem_cons_zero, List.getElem_cons_succ, List.setIfInBounds_toArray, List.set_cons_zero, List.set_cons_succ]
            refine wpAnyH_take (i := 4) (v := ?_) rfl (by kernel_rfl) (by kernel_rfl) (by kernel_rfl) (fun _ _ _ h => h) (Or.inl ⟨by rfl, ?_⟩) (by assumption) ?_
            rotate_left
            · (intro wq hSw; (try dsimp only at hSw); go_simp <;> with_reducible rfl)
            try simp only [Act.put, List.getElem_toArray, List.getElem_cons_zero, List.getElem_cons_succ, List.setIfInBounds_toArray, List.set_cons_zero, List.set_cons_succ]
            refine wpAnyH_take (i := 5) (v := ?_) rfl (by kernel_rfl) (by kernel_rfl) (by kernel_rfl) (fun _ _ _ h => h) (Or.inl ⟨by rfl, ?_⟩) (by assumption) ?_
            rotate_left
            · (intro wq hSw; (try dsimp only at hSw); go_simp <;> with_reducible rfl)
            try simp only [Act.put, List.getElem_toArray, List.getElem_cons_zero, List.getElem_cons_succ, List.setIfInBounds_toArray, List.set_cons_zero, List.set_cons_succ]
            refine wpAnyH_take (i := 6) (v := ?_) rfl (by kernel_rfl) (by kernel_rfl) (by kernel_rfl) (fun _ _ _ h => h) (Or.inl ⟨by rfl, ?_⟩) (by assumption) ?_
            rotate_left
            · (intro wq hSw; (try dsimp only at hSw); go_simp <;> with_reducible rfl)
            try simp only [Act.put, List.getElem_toArray, List.getElem_cons_zero, List.getElem_cons_succ, List.setIfInBounds_toArray, List.set_cons_zero, List.set_cons_succ]
            refine wpAnyH_ready (rs := [8]) (by kernel_rfl) (by simp) (AllReadyH.cons rfl (fun Kq hKq => ?_) (AllReadyH.nil))
            have z0 := Z_8.out.c0
            have z1 := Z_8.out.c1
            have z2 := Z_8.out.c2
            have zf := Z_8.out.nf
            have zl := Z_8.out.lt
            have EE : Hid (DdI W r A len cap d (((q8.setCell ⟨u1.heap.size, 0, none⟩ (.slice D1 (sdD d x).live.length t1)).setCell ⟨u1.heap.size, 1, none⟩ (.slice D2 (sdD d x).safe.length t2)).setCell ⟨u1.heap.size, 2, none⟩ (.slice D3 (sdD d x).ops.length t3)) ∧ DkHas (((q8.setCell ⟨u1.heap.size, 0, none⟩ (.slice D1 (sdD d x).live.length t1)).setCell ⟨u1.heap.size, 1, none⟩ (.slice D2 (sdD d x).safe.length t2)).setCell ⟨u1.heap.size, 2, none⟩ (.slice D3 (sdD d x).ops.length t3)) (W.heap.size + 2) (.agg #[.slice D1 (sdD d x).live.length t1, .slice D2 (sdD d x).safe.length t2, .slice D3 (sdD d x).ops.length t3]) (sdD d x)) := ⟨ddSet3 J_8.out hrl HA.out Z_8.out (by omega), HR_8.out.setBox3 Z_8.out.gb.choose_spec.choose_spec⟩
            have EC := box_cells (v1 := .slice D1 (sdD d x).live.length t1) (v2 := .slice D2 (sdD d x).safe.length t2) (v3 := .slice D3 (sdD d x).ops.length t3) z0 z1 z2
            have UE : UpdG r u1 (((q8.setCell ⟨u1.heap.size, 0, none⟩ (.slice D1 (sdD d x).live.length t1)).setCell ⟨u1.heap.size, 1, none⟩ (.slice D2 (sdD d x).safe.length t2)).setCell ⟨u1.heap.size, 2, none⟩ (.slice D3 (sdD d x).ops.length t3)) := ((U_8.fresh2 (by omega) (by omega)).fresh2 (by omega) (by omega)).fresh2 (by omega) (by omega)
            go_simp
            refine hKq.out _ _ ?_ (fun hHeld => ?_)
            · exact sdS UE
            clear hKq Kq
            try simp only [Act.put, List.getElem_toArray, List.getElem_cons_zero, List.getElem_cons_succ, List.setIfInBounds_toArray, List.set_cons_zero, List.set_cons_succ]
            refine wpAnyH_take (i := 9) (v := ?_) rfl (by kernel_rfl) (by kernel_rfl) (by kernel_rfl) (fun _ _ _ h => h) (Or.inl ⟨by rfl, ?_⟩) (by assumption) ?_
            rotate_left
            · (intro wq hSw; (try dsimp only at hSw); go_simp <;> with_reducible rfl)
            try simp only [Act.put, List.getElem_toArray, List.getElem_cons_zero, List.getElem_cons_succ, List.setIfInBounds_toArray, List.set_cons_zero, List.set_cons_succ]
            refine wpAnyH_done (by kernel_rfl) ?_ _
            clear hHeld
            go_wp2_with fail
            go_meet
            exact ⟨_, x, _, _, _, _, _, _, _, _, _, rfl, rfl, HX.out, EE.out.1, hlo, EC.1, EC.2.1, EC.2.2, EE.out.2, HAP.out⟩
        case rest =>
          obtain ⟨q, x, b1, b2, b3, l1, l2, l3, q1, q2, q3, rfl, rfl, hx, hI2, hq, g0, g1, g2, hh, hap⟩ := hcut
          have J2 : Hid (DdI W r A len cap d wc) := hI2
          have HX : Hid (dpLil x) := hx
          have HHC : Hid (DkHas wc (W.heap.size + 2) (.agg #[.slice b1 l1 q1, .slice b2 l2 q2, .slice b3 l3 q3]) (sdD d x)) := hh
          have HAP : Hid (sdK d x = 0 → ApV (.agg #[.slice b1 l1 q1, .slice b2 l2 q2, .slice b3 l3 q3])) := hap
          obtain ⟨y1, y2, y3, e0, e1, e2, _, _⟩ := J2.out.ex
          have nf2 := J2.out.nf
          have l2w : W.heap.size + 1 < wc.heap.size := J2.out.lt
          have lq : q < wc.heap.size := World.block_lt_of_cell? wc ⟨q, 0, none⟩ g0
          have hqn : ¬ q = W.heap.size + 1 := by omega
          clear hI2 hh hap hx c0 c1 c2 nf
          obtain ⟨sk, HSK⟩ : ∃ sk, Hid (sdK d x = sk) := ⟨_, rfl⟩
          rw [HSK.out]
          by_cases hs0 : sk = 0
          · have hs1 : (sk == 0) = true := by simpa using hs0
            have HK0 : Hid (doK d x = 0) := by have h9 := HSK.out; rw [sdK, if_pos J1.out.ok] at h9; exact h9.trans hs0
            have HSD : Hid (sdD d x = acD d x) := by show _ = _; rw [sdD, if_pos J1.out.ok]
            have J3 := J2.out.put hrl HA.out HHC.out (Or.inr (HAP.out (HSK.out.trans hs0))) (by rw [HSD.out]; exact act_disk J1.out.ok HK0.out) (by rw [HSD.out]; exact act_lil J1.out.ok J1.out.lil HX.out HK0.out)
            have J4 : Hid (DdI W r A len cap (sdD d x) (((wc.setCell ⟨W.heap.size + 1, 0, none⟩ (.slice b1 l1 q1)).setCell ⟨W.heap.size + 1, 1, none⟩ (.slice b2 l2 q2)).setCell ⟨W.heap.size + 1, 2, none⟩ (.slice b3 l3 q3))) := J3
            clear J3
            go_wp2_with fail
            go_roundw
            case rel => exact ⟨s, _, by omega, by go_num, J4.out⟩
            case measure => simp [intOf]
          · have hs1 : (sk == 0) = false := by simpa using hs0
            go_wp2_with fail
            go_roundw
            case rel => exact ⟨s, d, by omega, by go_num, J2.out⟩
            case measure => simp [intOf]
      · go_wp2_with fail
        refine (spec_SyncO _ HH1.out.row J1.out.lil).mono ?_
        rintro e u2 ⟨vn, rfl, ho, hap, hb⟩
        have J2 : Hid (DdI W r A len cap d u2) := J1.out.below hrl hb
        obtain ⟨x1, x2, x3, rfl, o1, o2, o3⟩ := ho
        obtain ⟨D1, q1, rfl, y1, y2⟩ := own_shape o1
        obtain ⟨D2, q2, rfl, y3, y4⟩ := own_shape o2
        obtain ⟨D3, q3, rfl, y5, y6⟩ := own_shape o3
        have J3 := J2.out.put hrl HA.out (D1 := .slice D1 (syD d).live.length q1) (D2 := .slice D2 (syD d).safe.length q2) (D3 := .slice D3 (syD d).ops.length q3) ⟨_, _, _, rfl, own_mono o1 (by omega), own_mono o2 (by omega), own_mono o3 (by omega)⟩ hap (sy_ok J1.out.ok) (sy_lil J1.out.ok J1.out.lil)
        obtain ⟨n1, HN1⟩ : ∃ n, Hid ((syD d).live.length = n) := ⟨_, rfl⟩
        obtain ⟨n2, HN2⟩ : ∃ n, Hid ((syD d).safe.length = n) := ⟨_, rfl⟩
        obtain ⟨n3, HN3⟩ : ∃ n, Hid ((syD d).ops.length = n) := ⟨_, rfl⟩
        rw [HN1.out, HN2.out, HN3.out] at J3
        rw [HN1.out, HN2.out, HN3.out]
        have J4 : Hid (DdI W r A len cap (syD d) (((u2.setCell ⟨W.heap.size + 1, 0, none⟩ (.slice D1 n1 q1)).setCell ⟨W.heap.size + 1, 1, none⟩ (.slice D2 n2 q2)).setCell ⟨W.heap.size + 1, 2, none⟩ (.slice D3 n3 q3))) := J3
        replace c0 := cy hb c0
        replace c1 := cy hb c1
        replace c2 := cy hb c2
        replace nf := J2.out.nf
        have l2 : W.heap.size + 1 < u2.heap.size := J2.out.lt
        clear J3 hb o1 o2 o3 y1 y2 y3 y4 y5 y6 hap
        go_wp2_with fail
        go_roundw
        case rel => exact ⟨s, _, by omega, by go_num, J4.out⟩
        case measure => simp [intOf]
    · have hk2 : ¬ (0 : Int) < (k : Int) := by omega
      have hk3 : k = 0 := by omega
      subst hk3
      go_wp2_with fail
      refine (rd_belowG r A len cap 40 _ HI.out.rd (by omega) (by omega)).mono ?_
      rintro e u1 ⟨b, rfl, b0, b40, hr, hu⟩
      have J1 : Hid (DdI W r A len cap d u1) := HI.out.upd hrl hu hr
      clear hr hu
      obtain ⟨v1, v2, v3, c0, c1, c2, hh, ha⟩ := J1.out.ex
      obtain ⟨x1, x2, x3, e9, o1, o2, o3⟩ := hh
      cases e9
      obtain ⟨a1, ac1, rfl, y1, y2⟩ := own_shape o1
      obtain ⟨a2, ac2, rfl, y3, y4⟩ := own_shape o2
      obtain ⟨a3, ac3, rfl, y5, y6⟩ := own_shape o3
      have P1 : Hid (u1.ownsRow (W.heap.size + 2) 75 2 (.slice a1 d.live.length ac1) d.live.length (flat fiL d.live)) := o1
      have P2 : Hid (u1.ownsRow (W.heap.size + 2) 75 2 (.slice a2 d.safe.length ac2) d.safe.length (flat fiL d.safe)) := o2
      have P3 : Hid (u1.ownsRow (W.heap.size + 2) 36 4 (.slice a3 d.ops.length ac3) d.ops.length (flat dpL d.ops)) := o3
      have HAP : Hid (d.safe = [] ∨ (Value.slice a1 d.live.length ac1).ownBlock = none ∨ (Value.slice a1 d.live.length ac1).ownBlock ≠ (Value.slice a2 d.safe.length ac2).ownBlock) := ha
      have hl60 : d.live.length ≤ 60 := (files_parts (disk_parts J1.out.ok).1).1
      have nf := J1.out.nf
      have p0 := J1.out.p0
      have p1 := J1.out.p1
      have p2 := J1.out.p2
      have pf := J1.out.pf
      have l1 : W.heap.size + 1 < u1.heap.size := J1.out.lt
      have l0 : W.heap.size < u1.heap.size := by omega
      have lb : W.heap.size + 2 ≤ u1.heap.size := by omega
      clear o1 o2 o3 ha y1 y2 y3 y4 y5 y6
      by_cases g39 : b = 39
      · subst g39
        go_wp2_with (first
          | (at_builtin; (refine wpList_app_fiD rfl _ _ rfl (W.heap.size + 2) (.slice a1 d.live.length ac1) d.live.length (flat fiL d.live) rfl P1.out zzF (by rfl) (by omega) lb ?_))
          | go_in)
        intro va w5 hown hg
        have hb : Below (W.heap.size + 2) u1 w5 := grown_al hg lb (fun q e => (P1.out.lt q e.symm).1)
        have h5s := hb.size
        have Q2 : Hid (FiRow w5 a2 d.safe) := by
          rcases HAP.out with h9 | h9
          · rw [h9]; exact ⟨Nat.zero_le _, fun i x hx => by simp at hx⟩
          · exact RowAt.of_own fiL_len ((P2.out.alloc _).kept hg (ap_symm h9)) rfl
        have Q3 : Hid (w5.ownsRow (W.heap.size + 2) 36 4 (.slice a3 d.ops.length ac3) d.ops.length (flat dpL d.ops)) := (P3.out.alloc _).kept hg (own_ne_tyG P3.out P1.out (by decide))
        obtain ⟨z1, zc, rfl, y1, y2⟩ := own_shape hown
        have Q1 : Hid (w5.ownsRow (W.heap.size + 2) 75 2 (.slice z1 (d.live.length + 1) zc) (d.live.length + 1) (flat fiL (d.live ++ [zzF]))) := by rw [flat_snoc]; exact hown
        have RD : Hid (Rd w5 r A len cap) := J1.out.rd.belowB (fun h x e => Nat.lt_of_lt_of_le (HA.out h x e) (by omega)) (by omega) hb
        have UP : Hid (UpdG r W w5) := J1.out.up.belowW hb (by omega) hrl
        replace c0 := cyB hb (by omega) c0
        replace c1 := cyB hb (by omega) c1
        replace c2 := cyB hb (by omega) c2
        replace p0 := cyB hb (by omega) p0
        replace p1 := cyB hb (by omega) p1
        replace p2 := cyB hb (by omega) p2
        replace nf : ∀ o, w5.frozen? ⟨W.heap.size + 1, o, none⟩ = false := fun o => (hb.frozen (p := ⟨W.heap.size + 1, o, none⟩) (by show W.heap.size + 1 < _; omega)).trans (nf o)
        replace pf : ∀ o, w5.frozen? ⟨W.heap.size, o, none⟩ = false := fun o => (hb.frozen (p := ⟨W.heap.size, o, none⟩) (by show W.heap.size < _; omega)).trans (pf o)
        have m1 : W.heap.size + 1 < w5.heap.size := by omega
        have m0 : W.heap.size < w5.heap.size := by omega
        have HF2 : Hid (∀ b o, a2 = some ⟨b, o, none⟩ → W.heap.size + 2 ≤ b) := own_far P2.out
        have HZ2 : Hid (a2 = none → ac2 = 0) := own_nocap P2.out
        have HLZ : Hid (DkLil ⟨d.live ++ [zzF], d.safe, d.ops⟩) := by
          have hl := J1.out.lil
          refine ⟨fun x hx => ?_, hl.l2, hl.l3, by show (d.live ++ [zzF]).length ≤ _; rw [List.length_append]; simp; omega, hl.n2, hl.n3⟩
          rcases List.mem_append.1 hx with hx | hx
          · exact hl.l1 x hx
          · rw [List.mem_singleton.1 hx]; exact ⟨by decide, by decide⟩
        clear hown hg hb y1 y2
        go_wp2_with fail
        refine bodyPost_ret (v := .agg #[.slice z1 (d.live.length + 1) zc, .slice a2 d.safe.length ac2, .slice a3 d.ops.length ac3]) ?_ rfl ⟨_, ⟨d.live ++ [zzF], d.safe, d.ops⟩, rfl, ?_, HLZ.out, ?_, ?_⟩
        · simp (maxDischargeDepth := 9) [results, Try.results40, go_sem, *]
        · refine ⟨z1, zc, a2, ac2, a3, ac3, by show _ = Value.agg #[.slice z1 (d.live ++ [zzF]).length zc, _, _]; rw [List.length_append]; rfl, ?_, ?_, ?_, own_nocap Q1.out, HZ2.out, own_nocap Q3.out, own_far Q1.out, HF2.out, own_far Q3.out⟩
          · exact (((RowAt.of_own fiL_len Q1.out (by rw [List.length_append]; rfl)).set1B (own_far Q1.out) (by omega) _ _).set3B (own_far Q1.out) (by omega) _ _ _)
          · exact ((Q2.out.set1B HF2.out (by omega) _ _).set3B HF2.out (by omega) _ _ _)
          · exact (((RowAt.of_own dpL_len Q3.out rfl).set1B (own_far Q3.out) (by omega) _ _).set3B (own_far Q3.out) (by omega) _ _ _)
        · exact (((RD.out.store HA.out (Nat.le_succ _) hrn).store HA.out (Nat.le_refl _) hrn0).store HA.out (Nat.le_refl _) hrn0).store HA.out (Nat.le_refl _) hrn0
        · exact (((UP.out.fresh (Nat.le_succ _) hrl).fresh (Nat.le_refl _) hrl).fresh (Nat.le_refl _) hrl).fresh (Nat.le_refl _) hrl
      by_cases g38 : b = 38
      · subst g38
        obtain ⟨n3, HN3⟩ : ∃ n, Hid (d.ops.length = n) := ⟨_, rfl⟩
        rw [HN3.out] at c2 P3
        by_cases h30 : n3 = 0
        · subst h30
          go_wp2_with fail
          refine bodyPost_ret (v := .agg #[.slice a1 d.live.length ac1, .slice a2 d.safe.length ac2, .slice a3 0 ac3]) ?_ rfl ⟨_, d, rfl, ?_, J1.out.lil, ?_, ?_⟩
          · simp (maxDischargeDepth := 9) [results, Try.results40, go_sem, *]
          · have HD : DkHas u1 (W.heap.size + 2) (.agg #[.slice a1 d.live.length ac1, .slice a2 d.safe.length ac2, .slice a3 0 ac3]) d := ⟨_, _, _, rfl, P1.out, P2.out, by rw [HN3.out]; exact P3.out⟩
            exact (((HD.set (by omega) _ _).set (by omega) _ _).set (by omega) _ _).rowF
          · exact ((J1.out.rd.store HA.out (Nat.le_refl _) hrn0).store HA.out (Nat.le_refl _) hrn0).store HA.out (Nat.le_refl _) hrn0
          · exact ((J1.out.up.fresh (Nat.le_refl _) hrl).fresh (Nat.le_refl _) hrl).fresh (Nat.le_refl _) hrl
        · have h31 : (0 : Int) < (n3 : Int) := by omega
          have h31n : 0 < n3 := by omega
          have h1n : (1 : Int) ≤ (n3 : Int) := by omega
          have HLT : Hid (DkLil ⟨d.live, d.safe, d.ops.tail⟩) := by
            have hl := J1.out.lil
            exact ⟨hl.l1, hl.l2, fun x hx => hl.l3 x (List.mem_of_mem_tail hx), hl.n1, hl.n2, by show d.ops.tail.length ≤ _; rw [List.length_tail]; have := hl.n3; omega⟩
          have hcap : n3 ≤ ac3 := own_cap P3.out
          by_cases hc1 : ac3 = 1
          · have hn1 : n3 = 1 := by omega
            have HRT : Hid (DpRow u1 a3 d.ops.tail) := by
              have e9 : d.ops.tail = [] := List.length_eq_zero_iff.1 (by rw [List.length_tail, HN3.out]; omega)
              rw [e9]; exact ⟨Nat.zero_le _, fun i x hx => by simp at hx⟩
            have HFT : Hid (∀ b o, a3 = some ⟨b, o, none⟩ → W.heap.size + 2 ≤ b) := own_far P3.out
            go_wp2_with fail
            refine bodyPost_ret (v := .agg #[.slice a1 d.live.length ac1, .slice a2 d.safe.length ac2, .slice a3 (n3 - 1) (ac3 - 1)]) ?_ rfl ⟨_, ⟨d.live, d.safe, d.ops.tail⟩, rfl, ?_, HLT.out, ?_, ?_⟩
            · simp (maxDischargeDepth := 9) [results, Try.results40, go_sem, *]
            · refine ⟨a1, ac1, a2, ac2, a3, (ac3 - 1), by show _ = Value.agg #[_, _, .slice _ d.ops.tail.length _]; rw [List.length_tail, HN3.out], ?_, ?_, ?_, own_nocap P1.out, own_nocap P2.out, (fun _ => by omega), own_far P1.out, own_far P2.out, HFT.out⟩
              · exact (((RowAt.of_own fiL_len P1.out rfl).set1B (own_far P1.out) (by omega) _ _).set3B (own_far P1.out) (by omega) _ _ _)
              · exact (((RowAt.of_own fiL_len P2.out rfl).set1B (own_far P2.out) (by omega) _ _).set3B (own_far P2.out) (by omega) _ _ _)
              · exact ((HRT.out.set1B HFT.out (by omega) _ _).set3B HFT.out (by omega) _ _ _)
            · exact (((J1.out.rd.store HA.out (Nat.le_succ _) hrn).store HA.out (Nat.le_refl _) hrn0).store HA.out (Nat.le_refl _) hrn0).store HA.out (Nat.le_refl _) hrn0
            · exact (((J1.out.up.fresh (Nat.le_succ _) hrl).fresh (Nat.le_refl _) hrl).fresh (Nat.le_refl _) hrl).fresh (Nat.le_refl _) hrl
          · have HRT : Hid (DpRow u1 (Option.map (fun x : Addr => ({ block := x.block, off := x.off + 4 } : Addr)) a3) d.ops.tail) := row_tail (RowAt.of_own dpL_len P3.out HN3.out)
            have HNL : Hid ((Option.map (fun x : Addr => ({ block := x.block, off := x.off + 4 } : Addr)) a3) = none → ac3 - 1 = 0) := by
              show _ → _
              intro e9
              cases ha3 : a3 with
              | none => have := own_nocap P3.out ha3; omega
              | some y => rw [ha3] at e9; cases e9
            have HFT : Hid (∀ b o, (Option.map (fun x : Addr => ({ block := x.block, off := x.off + 4 } : Addr)) a3) = some ⟨b, o, none⟩ → W.heap.size + 2 ≤ b) := by
              show ∀ b o, _
              intro b o e9
              cases ha3 : a3 with
              | none => rw [ha3] at e9; cases e9
              | some y =>
                rw [ha3] at e9
                obtain ⟨yb, yo, ys⟩ := y
                cases e9
                have h9 := P3.out
                rw [ha3] at h9
                exact (h9.lt yb rfl).1
            go_wp2_with fail
            refine bodyPost_ret (v := .agg #[.slice a1 d.live.length ac1, .slice a2 d.safe.length ac2, .slice (Option.map (fun x => { block := x.block, off := x.off + 4 }) a3) (n3 - 1) (ac3 - 1)]) ?_ rfl ⟨_, ⟨d.live, d.safe, d.ops.tail⟩, rfl, ?_, HLT.out, ?_, ?_⟩
            · simp (maxDischargeDepth := 9) [results, Try.results40, go_sem, *]
            · refine ⟨a1, ac1, a2, ac2, (Option.map (fun x => { block := x.block, off := x.off + 4 }) a3), (ac3 - 1), by show _ = Value.agg #[_, _, .slice _ d.ops.tail.length _]; rw [List.length_tail, HN3.out], ?_, ?_, ?_, own_nocap P1.out, own_nocap P2.out, HNL.out, own_far P1.out, own_far P2.out, HFT.out⟩
              · exact (((RowAt.of_own fiL_len P1.out rfl).set1B (own_far P1.out) (by omega) _ _).set3B (own_far P1.out) (by omega) _ _ _)
              · exact (((RowAt.of_own fiL_len P2.out rfl).set1B (own_far P2.out) (by omega) _ _).set3B (own_far P2.out) (by omega) _ _ _)
              · exact ((HRT.out.set1B HFT.out (by omega) _ _).set3B HFT.out (by omega) _ _ _)
            · exact (((J1.out.rd.store HA.out (Nat.le_succ _) hrn).store HA.out (Nat.le_refl _) hrn0).store HA.out (Nat.le_refl _) hrn0).store HA.out (Nat.le_refl _) hrn0
            · exact (((J1.out.up.fresh (Nat.le_succ _) hrl).fresh (Nat.le_refl _) hrl).fresh (Nat.le_refl _) hrl).fresh (Nat.le_refl _) hrl
      by_cases g37 : b = 37
      · subst g37
        clear c0 c1 c2 nf p0 p1 p2 pf
        obtain ⟨c0, c1, c2, _, _⟩ := J1.out.ex.choose_spec.choose_spec.choose_spec
        have nf := J1.out.nf
        go_wp2_with fail
        refine (rd_belowG r A len cap 9 _ J1.out.rd (by omega) (by omega)).mono ?_
        rintro e u2 ⟨bv, rfl, bv0, bv9, hr, hu⟩
        have J2 : Hid (DdI W r A len cap d u2) := J1.out.upd hrl hu hr
        obtain ⟨nn, hnn⟩ : ∃ nn : Nat, 200000 - bv = (nn : Int) := ⟨(200000 - bv).toNat, by omega⟩
        have hnb : nn ≤ 200000 := by omega
        have l2 : W.heap.size + 1 < u2.heap.size := J2.out.lt
        clear hr hu c0 c1 c2 nf
        obtain ⟨i0, hi, iz0, iz1, iz2⟩ := info_parts infoU8D
        go_wp2_with (first
          | (at_make; (refine wpList_make_full _ rfl _ _ 22 rfl u2.heap.size 5 i0 (.int .u8 0) 1 Try.underlying22 hi iz0 iz1 _ _ _ _ nn rfl rfl ?ma ?mb ?mc ?md (Nat.le_refl _) ?_))
          | go_in)
        case ma => omega
        case mb => omega
        case mc => rw [iz2]; omega
        case md => unfold maxLen; omega
        intro w6 hown hg
        obtain ⟨sb, hsb, hcv⟩ := conv_rowD hown ⟨List.replicate nn 0, by rw [toList_madeCells_one, List.map_replicate]⟩
        have hb : Below u2.heap.size u2 w6 := ⟨hg.os, hg.tape, hg.output, hg.size, fun q hq => hg.block q hq (by intro e; cases e)⟩
        have J3 : Hid (DdI W r A len cap d w6) := J2.out.below hrl hb
        obtain ⟨y1, y2, y3, c0, c1, c2, _, _⟩ := J3.out.ex
        have nf := J3.out.nf
        have p0 := J3.out.p0
        have p1 := J3.out.p1
        have p2 := J3.out.p2
        have pf := J3.out.pf
        have l3 : W.heap.size + 1 < w6.heap.size := J3.out.lt
        have l30 : W.heap.size < w6.heap.size := by omega
        have HSB : Hid (sb.size = nn) := hsb
        have HBV : Hid (nn ≤ 200000) := hnb
        clear hown hg hb hi iz0 iz1 iz2 hnn hsb hnb bv0 bv9
        go_upto_region 18 with fail
        obtain ⟨w7, HW7⟩ : ∃ w7, Hid ((((w6.setCell ⟨W.heap.size + 1, 0, none⟩ (.slice (some ⟨w6.heap.size, 0, none⟩) 1 1)).setCell ⟨W.heap.size + 1, 1, none⟩ (.slice none 0 0)).setCell ⟨W.heap.size + 1, 2, none⟩ (.slice none 0 0)).alloc (.cells #[.string ⟨#[98, 105, 103]⟩, .string sb] 75) = w7) := ⟨_, rfl⟩
        rw [HW7.out]
        have d0 : w7.cell? ⟨W.heap.size + 1, 0, none⟩ = some (.slice (some ⟨w6.heap.size, 0, none⟩) 1 1) := by rw [← HW7.out]; go_simp
        have d1 : w7.cell? ⟨W.heap.size + 1, 1, none⟩ = some (.slice none 0 0) := by rw [← HW7.out]; go_simp
        have d2 : w7.cell? ⟨W.heap.size + 1, 2, none⟩ = some (.slice none 0 0) := by rw [← HW7.out]; go_simp
        have f0 : w7.cell? ⟨w6.heap.size, 0, none⟩ = some (.string ⟨#[98, 105, 103]⟩) := by rw [← HW7.out]; go_simp
        have f1 : w7.cell? ⟨w6.heap.size, 1, none⟩ = some (.string sb) := by rw [← HW7.out]; go_simp
        have q0 : w7.cell? ⟨W.heap.size, 0, none⟩ = some (.slice none 0 0) := by rw [← HW7.out]; go_simp
        have q1 : w7.cell? ⟨W.heap.size, 1, none⟩ = some (.slice none 0 0) := by rw [← HW7.out]; go_simp
        have q2 : w7.cell? ⟨W.heap.size, 2, none⟩ = some (.slice none 0 0) := by rw [← HW7.out]; go_simp
        have df : ∀ o, w7.frozen? ⟨W.heap.size + 1, o, none⟩ = false := fun o => by rw [← HW7.out]; go_simp
        have qf : ∀ o, w7.frozen? ⟨W.heap.size, o, none⟩ = false := fun o => by rw [← HW7.out]; go_simp
        have RD : Hid (Rd w7 r A len cap) := by
          rw [← HW7.out]
          exact (((J3.out.rd.store HA.out (Nat.le_succ _) hrn).store HA.out (Nat.le_succ _) hrn).store HA.out (Nat.le_succ _) hrn).below ((Below.refl _ _).alloc (Nat.le_refl _) _)
        have UP : Hid (UpdG r W w7) := by
          rw [← HW7.out]
          exact (((J3.out.up.fresh (Nat.le_succ _) hrl).fresh (Nat.le_succ _) hrl).fresh (Nat.le_succ _) hrl).then (by simp; omega) ((Below.refl _ _).alloc (Nat.le_refl _) _)
        have m7 : w6.heap.size < w7.heap.size := World.block_lt_of_cell? w7 ⟨w6.heap.size, 0, none⟩ f0
        have m1 : W.heap.size + 1 < w7.heap.size := by omega
        have m0 : W.heap.size < w7.heap.size := by omega
        have HFI : Hid (FiRow w7 (some ⟨w6.heap.size, 0, none⟩) [⟨⟨#[98, 105, 103]⟩, sb⟩]) := by
          refine ⟨by unfold maxLen; simp, fun i x hx => ?_⟩
          cases i with
          | zero =>
            cases hx
            refine ⟨w6.heap.size, 0, rfl, m7, fun j v hv => ?_⟩
            match j, hv with
            | 0, hv => cases hv; exact f0
            | 1, hv => cases hv; exact f1
          | succ i => simp at hx
        have HFA : Hid (∀ b o, (some ⟨w6.heap.size, 0, none⟩ : Option Addr) = some ⟨b, o, none⟩ → W.heap.size + 2 ≤ b) := by
          show ∀ b o, _
          intro b o e9
          cases e9
          omega
        have HLB : Hid (DkLil ⟨[⟨⟨#[98, 105, 103]⟩, sb⟩], [⟨⟨#[98, 105, 103]⟩, sb⟩], []⟩) := by
          have h1 : ∀ x ∈ [(⟨⟨#[98, 105, 103]⟩, sb⟩ : FI)], fiLil x := fun x hx => by
            rw [List.mem_singleton.1 hx]
            exact ⟨by show (3 : Nat) ≤ 1048576; omega, by show sb.size ≤ 1048576; have := HSB.out; have := HBV.out; omega⟩
          exact ⟨h1, h1, fun x hx => (by cases hx), by simp, by simp, by simp⟩
        clear c0 c1 c2 p0 p1 p2 pf nf hcv f0 f1 HW7
        go_wp2_with fail
        refine bodyPost_ret (v := .agg #[.slice (some ⟨w6.heap.size, 0, none⟩) 1 1, .slice (some ⟨w6.heap.size, 0, none⟩) 1 1, .slice none 0 0]) ?_ rfl ⟨_, ⟨[⟨⟨#[98, 105, 103]⟩, sb⟩], [⟨⟨#[98, 105, 103]⟩, sb⟩], []⟩, rfl, ?_, HLB.out, ?_, ?_⟩
        · simp (maxDischargeDepth := 9) [results, Try.results40, go_sem, *]
        · refine ⟨_, 1, _, 1, none, 0, rfl, ?_, ?_, ⟨Nat.zero_le _, fun i x hx => by simp at hx⟩, fun e => (by cases e), fun e => (by cases e), fun _ => rfl, HFA.out, HFA.out, fun b o e => (by cases e)⟩
          · exact ((HFI.out.set1B HFA.out (by omega) _ _).set3B HFA.out (by omega) _ _ _)
          · exact ((HFI.out.set1B HFA.out (by omega) _ _).set3B HFA.out (by omega) _ _ _)
        · exact (((RD.out.store HA.out (Nat.le_succ _) hrn).store HA.out (Nat.le_refl _) hrn0).store HA.out (Nat.le_refl _) hrn0).store HA.out (Nat.le_refl _) hrn0
        · exact (((UP.out.fresh (Nat.le_succ _) hrl).fresh (Nat.le_refl _) hrl).fresh (Nat.le_refl _) hrl).fresh (Nat.le_refl _) hrl
      have f39 : (b == 39) = false := by simpa using g39
      have f38 : (b == 38) = false := by simpa using g38
      have f37 : (b == 37) = false := by simpa using g37
      go_wp2_with fail
      refine bodyPost_ret (v := .agg #[.slice a1 d.live.length ac1, .slice a2 d.safe.length ac2, .slice a3 d.ops.length ac3]) ?_ rfl ⟨_, d, rfl, ?_, J1.out.lil, ?_, ?_⟩
      · simp (maxDischargeDepth := 9) [results, Try.results40, go_sem, *]
      · have HD : DkHas u1 (W.heap.size + 2) (.agg #[.slice a1 d.live.length ac1, .slice a2 d.safe.length ac2, .slice a3 d.ops.length ac3]) d := ⟨_, _, _, rfl, P1.out, P2.out, P3.out⟩
        exact (((HD.set (by omega) _ _).set (by omega) _ _).set (by omega) _ _).rowF
      · exact ((J1.out.rd.store HA.out (Nat.le_refl _) hrn0).store HA.out (Nat.le_refl _) hrn0).store HA.out (Nat.le_refl _) hrn0
      · exact ((J1.out.up.fresh (Nat.le_refl _) hrl).fresh (Nat.le_refl _) hrl).fresh (Nat.le_refl _) hrl
end Go.Proofs.Ytanjlpgdmnapdaa
