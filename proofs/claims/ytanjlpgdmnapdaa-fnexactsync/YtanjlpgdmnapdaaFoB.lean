import Derived.Test.YtanjlpgdmnapdaaFoA
import Derived.Maps.OwnOps
import Derived.Maps.OwnSet
import Derived.StringKeys
namespace Go.Proofs.Ytanjlpgdmnapdaa
open Go.RowKit Go.Maps
set_option linter.unusedSimpArgs false
set_option linter.unusedVariables false

theorem strK : Keyed Try.prog 9 := string_keyed Try.underlying9
theorem zeroPc (w : World) : (zeroValue 118).run Try.prog w = .ok (.agg #[.slice none 0 0, .int .i64 0]) w := by kernel_rfl
theorem foKey {s : ByteArray} (hs : s.size ≤ maxLen) : keyOf Try.prog 9 (.string s) = some (.string s.data.toList) := Go.WideMaps.keyOf_string_mk Try.underlying9 hs
theorem infoStr : (Try.prog.info? 9).map (fun i => (i.zero, i.size, i.bytes)) = some (some (.string ⟨#[]⟩), 1, 16) := by kernel_rfl

/-- A folder: block b; its files' pieces lie in rows of their own. -/
structure Fold (w : World) (B b m : Nat) (E : List FE) : Prop where
  own : w.ownsMap Try.prog 9 pcE b m (FD E)
  up : Up feK E
  base : B ≤ b
  rows : ∀ x ∈ E, w.ownsRow B 9 1 x.v x.ps.length (x.ps.map Value.string)
  apart : ∀ x ∈ E, ∀ y ∈ E, feK x ≠ feK y → x.v.ownBlock = none ∨ x.v.ownBlock ≠ y.v.ownBlock
  names : ∀ x ∈ E, x.n.size ≤ maxLen
theorem own_map_ne {w : World} {B b m n s : Nat} {e k : TypeId} {R : Value → Option (DataW Value × List MemPlace)} {D : DataW Value} {v : Value} {xs : List Value} (h : w.ownsMap Try.prog k R b m D) (h' : w.ownsRow B e s v n xs) : some b ≠ v.ownBlock := by
  intro e1
  obtain ⟨es, clock, hb, _⟩ := h
  rcases h'.2 with ⟨rfl, _⟩ | ⟨g, cap, cur, rfl, _, hg, _⟩
  · cases e1
  · cases e1
    rw [hb] at hg
    cases hg
theorem Fold.kept {w w' : World} {B b m : Nat} {E : List FE} {row : Option Nat} (h : Fold w B b m E) (hg : w.grownBy w' row) (hb : some b ≠ row) (hr : ∀ x ∈ E, x.v.ownBlock = none ∨ x.v.ownBlock ≠ row) : Fold w' B b m E :=
  ⟨h.own.kept hg hb, h.up, h.base, fun x hx => (h.rows x hx).kept hg (hr x hx), h.apart, h.names⟩
theorem Fold.below {w w' : World} {B b m : Nat} {E : List FE} (h : Fold w B b m E) (hb : Below w.heap.size w w') : Fold w' B b m E :=
  h.kept (grown_below none hb) (by simp) (fun x _ => by cases x.v.ownBlock <;> simp)
theorem Fold.mono {w : World} {B B' b m : Nat} {E : List FE} (h : Fold w B b m E) (hB : B' ≤ B) : Fold w B' b m E :=
  ⟨h.own, h.up, Nat.le_trans hB h.base, fun x hx => own_mono (h.rows x hx) hB, h.apart, h.names⟩
def foV (E : List FE) (u : List UInt8) : Value := match getK feK u E with | some x => x.v | none => .slice none 0 0
def foP (E : List FE) (u : List UInt8) : List ByteArray := match getK feK u E with | some x => x.ps | none => []
theorem fo_at (E : List FE) (u : List UInt8) : (FD E).atKey (.string u) (.held (.agg #[.slice none 0 0, .int .i64 0])) = .held (.agg #[foV E u, .int .i64 (sumZ (foP E u) : Nat)]) := by
  rw [FD_at, foV, foP]
  cases getK feK u E <;> rfl
theorem own_nil {w : World} {B : Nat} {e : TypeId} {s : Nat} : w.ownsRow B e s (.slice none 0 0) 0 [] := ⟨by simp, Or.inl ⟨rfl, rfl⟩⟩
theorem Fold.row {w : World} {B b m : Nat} {E : List FE} (h : Fold w B b m E) (u : List UInt8) : w.ownsRow B 9 1 (foV E u) (foP E u).length ((foP E u).map Value.string) := by
  rw [foV, foP]
  cases hg : getK feK u E with
  | none => exact own_nil
  | some x => exact h.rows x (getK_some hg).1
theorem Fold.others {w : World} {B b m : Nat} {E : List FE} (h : Fold w B b m E) (u : List UInt8) : ∀ y ∈ E, feK y ≠ u → y.v.ownBlock = none ∨ y.v.ownBlock ≠ (foV E u).ownBlock := by
  intro y hy hne
  rw [foV]
  cases hg : getK feK u E with
  | none => cases y.v.ownBlock <;> simp [Value.ownBlock]
  | some x => exact h.apart y hy x (getK_some hg).1 (by rw [(getK_some hg).2]; exact hne)

section
variable {P : Program} (w : World) {ops : Array Oper} {rest : List Oper} {o : Oper} {a : Act} {Q : Exit → Act → World → Prop}
/-- 'files[name]' -/
theorem wpList_lookup_fo (hg : o.guard = none) (m x : Operand) (hop : o.op = Op.lookup 71 m x false) (b n : Nat) (E : List FE)
    (hm : a.eval m = .map (some b)) (hown : w.ownsMap Try.prog 9 pcE b n (FD E)) (s : ByteArray) (hx : a.eval x = .string s) (hs : s.size ≤ maxLen)
    (hK : wpList Try.prog ops Q rest (a.put o.dst (.agg #[foV E s.data.toList, .int .i64 (sumZ (foP E s.data.toList) : Nat)])) w) :
    wpList Try.prog ops Q (o :: rest) a w := by
  refine wpList_plain hg fun K' hK' => ?_
  obtain ⟨v, ps, hrun, hv⟩ := hown.lookup strK Try.underlying71 (zeroPc w) (pcE_mk _ _) (foKey hs)
  rw [fo_at] at hv
  obtain ⟨y, z, rfl, e⟩ := pcE_inv hv
  simp only [Prod.mk.injEq, DataW.held.injEq] at e
  rw [← e.1] at hrun
  unfold Oper.wp
  simp [execOp, hop, hm, hx, hrun, Result.andThen]
  exact hK' _ _ hK
/-- '_, ok := files[name]' -/
theorem wpList_look2_fo (hg : o.guard = none) (m x : Operand) (hop : o.op = Op.lookup 71 m x true) (b n : Nat) (E : List FE)
    (hm : a.eval m = .map (some b)) (hown : w.ownsMap Try.prog 9 pcE b n (FD E)) (s : ByteArray) (hx : a.eval x = .string s) (hs : s.size ≤ maxLen)
    (hK : wpList Try.prog ops Q rest (a.put o.dst (.tuple #[.agg #[foV E s.data.toList, .int .i64 (sumZ (foP E s.data.toList) : Nat)], .bool (getK feK s.data.toList E).isSome])) w) :
    wpList Try.prog ops Q (o :: rest) a w := by
  refine wpList_lookup_own_ok w hg m x _ hop _ _ strK Try.underlying71 pcE (zeroPc w) _ _ (pcE_mk _ _) b n _ hm hown _ _ hx (foKey hs) (fun v ps hv => ?_)
  rw [fo_at] at hv
  obtain ⟨y, z, rfl, e⟩ := pcE_inv hv
  simp only [Prod.mk.injEq, DataW.held.injEq] at e
  rw [← e.1, FD_has]
  exact hK
end
/-- 'files[name] = p', at a step of a region that draws its order. -/
theorem step_mapUpdate_fo {w : World} {ops : Array Oper} {o : Oper} {a : Act} {K : Act → World → Prop} {Q : Exit → Act → World → Prop} {C : Prop} (hgd : o.guard = none) (m x v : Operand) (hop : o.op = Op.mapUpdate 71 m x v) (b n : Nat) (E : List FE)
    (hm : a.eval m = .map (some b)) (hown : w.ownsMap Try.prog 9 pcE b n (FD E)) (hn : n < maxLen) (e : FE) (hx : a.eval x = .string e.n) (hs : e.n.size ≤ maxLen) (hv : a.eval v = .agg #[e.v, .int .i64 (sumZ e.ps : Nat)])
    (h : ∀ w', w'.ownsMap Try.prog 9 pcE b (n + 1) (FD (putK feK e E)) → w.grownBy w' (some b) → w'.heap.size = w.heap.size → K (a.put o.dst undef) w') :
    if Region.wanted o (yielded ops a.tmps) = true then Oper.wp Try.prog o a w K Q else C := by
  have hw : Region.wanted o (yielded ops a.tmps) = true := by simp [Region.wanted, hgd]
  rw [if_pos hw]
  obtain ⟨w', hrun, r1, r2⟩ := hown.store strK Try.underlying71 hn (foKey hs) (pcE_mk e.v (sumZ e.ps : Nat))
  have r3 : w'.heap.size = w.heap.size := by
    obtain ⟨es, cl, es', cl', _, rfl⟩ := r2
    simp [Go.ChangeMaps.setBlock]
  have hp := FD_put e E
  unfold feK at hp
  rw [hp] at r1
  unfold Oper.wp
  simp [execOp, hop, hm, hx, hv, hrun, Result.andThen]
  exact h w' r1 r2.grown r3
end Go.Proofs.Ytanjlpgdmnapdaa
