import Derived.Test.YtanjlpgdmnapdaaFiA
import Derived.Maps.Ext
import Derived.Maps.RangeWalk
import Derived.WideShapes
import Derived.Maps.OwnOps
import Derived.Maps.OwnSet
import Derived.StringKeys
namespace Go.Proofs.Ytanjlpgdmnapdaa
open Go.RowKit Go.Maps
set_option linter.unusedSimpArgs false
set_option linter.unusedVariables false

/-! ### The order of names -/
theorem bb_irr (a : List UInt8) : bytesBefore a a = false := WideAt.bytes_irrefl a
theorem bb_tr {a b c : List UInt8} (h : bytesBefore a b = true) (k : bytesBefore b c = true) : bytesBefore a c = true := WideShapes.bytes_trans a b c h k
theorem bb_asym {a b : List UInt8} (h : bytesBefore a b = true) : bytesBefore b a = false := by
  cases e : bytesBefore b a
  · rfl
  · have := bb_tr h e
    rw [bb_irr] at this; cases this
theorem bb_ne {a b : List UInt8} (h : bytesBefore a b = true) : a ≠ b := fun e => by subst e; rw [bb_irr] at h; cases h
theorem bb_tot {a b : List UInt8} (h : bytesBefore a b = false) (hne : a ≠ b) : bytesBefore b a = true := by
  rcases WideAt.bytes_total a b hne with h1 | h1
  · rw [h] at h1; cases h1
  · exact h1

/-! ### Lists in order -/
section
variable {α β : Type} (key : α → List UInt8)
def insK (x : α) : List α → List α
  | [] => [x]
  | y :: r => if bytesBefore (key x) (key y) = true then x :: y :: r else y :: insK x r
def cutK (u : List UInt8) (L : List α) : List α := L.filter fun y => !(key y == u)
def putK (x : α) (L : List α) : List α := insK key x (cutK key (key x) L)
def getK (u : List UInt8) (L : List α) : Option α := L.find? fun y => key y == u
def Up (L : List α) : Prop := L.Pairwise fun a b => bytesBefore (key a) (key b) = true
variable {key}
theorem mem_insK {x y : α} : ∀ {L : List α}, y ∈ insK key x L ↔ y = x ∨ y ∈ L
  | [] => by simp [insK]
  | z :: r => by
    unfold insK
    split
    · simp
    · simp only [List.mem_cons, mem_insK (L := r)]
      constructor
      · rintro (h | h | h) <;> simp [h]
      · rintro (h | h | h) <;> simp [h]
theorem mem_cutK {u : List UInt8} {y : α} {L : List α} : y ∈ cutK key u L ↔ y ∈ L ∧ key y ≠ u := by simp [cutK]
theorem mem_putK {x y : α} {L : List α} : y ∈ putK key x L ↔ y = x ∨ (y ∈ L ∧ key y ≠ key x) := by rw [putK, mem_insK, mem_cutK]
theorem up_cutK {u : List UInt8} {L : List α} (h : Up key L) : Up key (cutK key u L) := List.Pairwise.filter _ h
theorem up_insK {x : α} : ∀ {L : List α}, Up key L → (∀ y ∈ L, key y ≠ key x) → Up key (insK key x L)
  | [], _, _ => List.pairwise_singleton _ _
  | y :: r, h, hne => by
    unfold insK
    cases List.pairwise_cons.1 h with
    | intro h1 h2 =>
    split
    · rename_i hlt
      refine List.pairwise_cons.2 ⟨fun z hz => ?_, h⟩
      rcases List.mem_cons.1 hz with rfl | hz
      · exact hlt
      · exact bb_tr hlt (h1 z hz)
    · rename_i hlt
      refine List.pairwise_cons.2 ⟨fun z hz => ?_, up_insK h2 (fun z hz => hne z (List.mem_cons_of_mem _ hz))⟩
      rcases mem_insK.1 hz with rfl | hz
      · exact bb_tot (by simpa using hlt) (fun e => hne y (List.mem_cons_self ..) e.symm)
      · exact h1 z hz
theorem up_putK {x : α} {L : List α} (h : Up key L) : Up key (putK key x L) := up_insK (up_cutK h) (fun y hy => (mem_cutK.1 hy).2)
theorem map_insK {key' : β → List UInt8} {f : α → β} (hf : ∀ a, key' (f a) = key a) (x : α) : ∀ L : List α, (insK key x L).map f = insK key' (f x) (L.map f)
  | [] => rfl
  | y :: r => by
    simp only [insK, List.map_cons, hf]
    split
    · rfl
    · rw [List.map_cons, map_insK hf x r]
theorem map_cutK {key' : β → List UInt8} {f : α → β} (hf : ∀ a, key' (f a) = key a) (u : List UInt8) (L : List α) : (cutK key u L).map f = cutK key' u (L.map f) := by
  rw [cutK, cutK, List.filter_map]
  congr 1
  apply List.filter_congr
  intro y _
  simp [Function.comp, hf]
theorem map_putK {key' : β → List UInt8} {f : α → β} (hf : ∀ a, key' (f a) = key a) (x : α) (L : List α) : (putK key x L).map f = putK key' (f x) (L.map f) := by
  rw [putK, putK, map_insK hf, map_cutK hf, hf]
theorem map_getK {key' : β → List UInt8} {f : α → β} (hf : ∀ a, key' (f a) = key a) (u : List UInt8) (L : List α) : getK key' u (L.map f) = (getK key u L).map f := by
  rw [getK, getK, List.find?_map]
  congr 2
  funext y
  simp [Function.comp, hf]
theorem up_inj {L : List α} (h : Up key L) {x y : α} (hx : x ∈ L) (hy : y ∈ L) (e : key x = key y) : x = y := by
  induction L with
  | nil => cases hx
  | cons z r ih =>
    cases List.pairwise_cons.1 h with
    | intro h1 h2 =>
    rcases List.mem_cons.1 hx with ex | hx' <;> rcases List.mem_cons.1 hy with ey | hy'
    · rw [ex, ey]
    · rw [ex] at e
      exact absurd e (bb_ne (h1 y hy'))
    · rw [ey] at e
      exact absurd e.symm (bb_ne (h1 x hx'))
    · exact ih h2 hx' hy'
theorem getK_some {u : List UInt8} {L : List α} {x : α} (h : getK key u L = some x) : x ∈ L ∧ key x = u := ⟨List.mem_of_find?_eq_some h, by simpa using List.find?_some h⟩
theorem getK_none {u : List UInt8} {L : List α} (h : getK key u L = none) : ∀ y ∈ L, key y ≠ u := fun y hy => by simpa using List.find?_eq_none.1 h y hy
theorem getK_of {u : List UInt8} {L : List α} {x : α} (h : Up key L) (hx : x ∈ L) (e : key x = u) : getK key u L = some x := by
  cases hg : getK key u L with
  | none => exact absurd e (getK_none hg x hx)
  | some y =>
    obtain ⟨h1, h2⟩ := getK_some hg
    rw [up_inj h h1 hx (h2.trans e.symm)]
theorem getK_put_same {x : α} {L : List α} (h : Up key L) : getK key (key x) (putK key x L) = some x := getK_of (up_putK h) (mem_putK.2 (Or.inl rfl)) rfl
theorem getK_put_other {x : α} {u : List UInt8} {L : List α} (h : Up key L) (hne : u ≠ key x) : getK key u (putK key x L) = getK key u L := by
  cases hg : getK key u L with
  | some y =>
    obtain ⟨h1, h2⟩ := getK_some hg
    exact getK_of (up_putK h) (mem_putK.2 (Or.inr ⟨h1, fun e => hne (h2.symm.trans e)⟩)) h2
  | none =>
    cases hp : getK key u (putK key x L) with
    | none => rfl
    | some y =>
      obtain ⟨h1, h2⟩ := getK_some hp
      rcases mem_putK.1 h1 with rfl | ⟨h3, _⟩
      · exact absurd h2.symm hne
      · exact absurd h2 (getK_none hg y h3)
theorem getK_cut_same {u : List UInt8} {L : List α} : getK key u (cutK key u L) = none := by
  cases hp : getK key u (cutK key u L) with
  | none => rfl
  | some y =>
    obtain ⟨h1, h2⟩ := getK_some hp
    exact absurd h2 (mem_cutK.1 h1).2
theorem getK_cut_other {u v : List UInt8} {L : List α} (h : Up key L) (hne : u ≠ v) : getK key u (cutK key v L) = getK key u L := by
  cases hg : getK key u L with
  | some y =>
    obtain ⟨h1, h2⟩ := getK_some hg
    exact getK_of (up_cutK h) (mem_cutK.2 ⟨h1, fun e => hne (h2.symm.trans e)⟩) h2
  | none =>
    cases hp : getK key u (cutK key v L) with
    | none => rfl
    | some y =>
      obtain ⟨h1, h2⟩ := getK_some hp
      exact absurd h2 (getK_none hg y (mem_cutK.1 h1).1)
theorem len_insK (x : α) : ∀ L : List α, (insK key x L).length = L.length + 1
  | [] => rfl
  | y :: r => by
    unfold insK
    split
    · rfl
    · simp [len_insK x r]
theorem len_putK (x : α) (L : List α) : (putK key x L).length ≤ L.length + 1 := by
  rw [putK, len_insK]
  have := List.length_filter_le (fun y => !(key y == key x)) L
  unfold cutK
  omega
theorem len_cutK (u : List UInt8) (L : List α) : (cutK key u L).length ≤ L.length := List.length_filter_le _ _
/-- Put behind all that is there. -/
theorem insK_last (x : α) : ∀ L : List α, (∀ y ∈ L, bytesBefore (key y) (key x) = true) → insK key x L = L ++ [x]
  | [], _ => rfl
  | y :: r, h => by
    have h1 := h y (List.mem_cons_self ..)
    simp [insK, bb_asym h1, insK_last x r (fun z hz => h z (List.mem_cons_of_mem _ hz))]
theorem putK_last {x : α} {L : List α} (h : ∀ y ∈ L, bytesBefore (key y) (key x) = true) : putK key x L = L ++ [x] := by
  have e : cutK key (key x) L = L := by
    apply List.filter_eq_self.2
    intro y hy
    simpa using bb_ne (h y hy)
  rw [putK, e, insK_last x L h]
end

/-! ### A file -/
def fiK (x : FI) : List UInt8 := x.n.data.toList
/-- Neighbours in order. -/
def ascB : List FI → Bool
  | x :: y :: r => bytesBefore (fiK x) (fiK y) && ascB (y :: r)
  | _ => true
theorem asc_up : ∀ L : List FI, ascB L = true ↔ Up fiK L
  | [] => by simp [ascB, Up]
  | [x] => by simp [ascB, Up]
  | x :: y :: r => by
    have ih := asc_up (y :: r)
    simp only [ascB, Bool.and_eq_true, ih]
    constructor
    · rintro ⟨h1, h2⟩
      refine List.pairwise_cons.2 ⟨fun z hz => ?_, h2⟩
      rcases List.mem_cons.1 hz with rfl | hz
      · exact h1
      · exact bb_tr h1 ((List.pairwise_cons.1 h2).1 z hz)
    · intro h
      exact ⟨(List.pairwise_cons.1 h).1 y (List.mem_cons_self ..), (List.pairwise_cons.1 h).2⟩
theorem asc_at : ∀ {L : List FI} {i : Nat} {x y : FI}, ascB L = true → L[i]? = some x → L[i + 1]? = some y → bytesBefore (fiK x) (fiK y) = true
  | x :: y :: r, 0, u, v, h, hx, hy => by
    simp at hx hy
    subst hx hy
    simp [ascB] at h; exact h.1
  | x :: y :: r, i + 1, u, v, h, hx, hy => by
    simp only [ascB, Bool.and_eq_true] at h
    exact asc_at (L := y :: r) (i := i) h.2 (by simpa using hx) (by simpa using hy)
  | [x], 0, u, v, h, hx, hy => by simp at hy
  | [x], i + 1, u, v, h, hx, hy => by simp at hx
  | [], i, u, v, h, hx, hy => by simp at hx
theorem asc_of : ∀ {L : List FI}, (∀ i x y, L[i]? = some x → L[i + 1]? = some y → bytesBefore (fiK x) (fiK y) = true) → ascB L = true
  | [], _ => rfl
  | [x], _ => rfl
  | x :: y :: r, h => by
    simp only [ascB, Bool.and_eq_true]
    exact ⟨h 0 x y (by simp) (by simp), asc_of (L := y :: r) (fun i u v hu hv => h (i + 1) u v (by simpa using hu) (by simpa using hv))⟩
theorem asc_no {L : List FI} {i : Nat} {x y : FI} (hx : L[i]? = some x) (hy : L[i + 1]? = some y) (h : bytesBefore (fiK x) (fiK y) = false) : ascB L = false := by
  cases e : ascB L
  · rfl
  · rw [asc_at e hx hy] at h; cases h

/-! ### A folder -/
structure FE where
  n : ByteArray
  ps : List ByteArray
  v : Value
def feK (x : FE) : List UInt8 := x.n.data.toList
def sumZ (ps : List ByteArray) : Nat := (ps.map ByteArray.size).sum
def feD (x : FE) : Lit × DataW Value := (.string (feK x), .held (.agg #[x.v, .int .i64 (sumZ x.ps : Nat)]))
def FD (E : List FE) : DataW Value := .map (E.map feD)
def pcE (v : Value) : Option (DataW Value × List MemPlace) :=
  match v with
  | .agg a => match a.toList with
    | [x, .int .i64 z] => some (.held (.agg #[x, .int .i64 z]), [])
    | _ => none
  | _ => none
theorem pcE_mk (x : Value) (z : Int) : pcE (.agg #[x, .int .i64 z]) = some (.held (.agg #[x, .int .i64 z]), []) := rfl
theorem pcE_inv {v : Value} {y : DataW Value × List MemPlace} (h : pcE v = some y) : ∃ x z, v = .agg #[x, .int .i64 z] ∧ y = (.held (.agg #[x, .int .i64 z]), []) := by
  unfold pcE at h
  split at h
  · rename_i a
    split at h
    · rename_i x z e
      cases h
      refine ⟨x, z, ?_, rfl⟩
      congr 1
      exact Array.toList_inj.1 e
    · cases h
  · cases h
theorem insert_feD (x : FE) : ∀ E : List FE, DataW.insert (feD x) (E.map feD) = (insK feK x E).map feD
  | [] => rfl
  | y :: r => by
    have ih := insert_feD x r
    have hb : (feD x).1.before (feD y).1 = bytesBefore (feK x) (feK y) := rfl
    rw [List.map_cons, DataW.insert, insK, hb]
    by_cases h : bytesBefore (feK x) (feK y) = true
    · rw [if_pos h, if_pos h]; rfl
    · rw [if_neg h, if_neg h, ih]; rfl
theorem FD_put (x : FE) (E : List FE) : (FD E).put (.string (feK x)) (.held (.agg #[x.v, .int .i64 (sumZ x.ps : Nat)])) = FD (putK feK x E) := by
  have e1 : (E.map feD).filter (fun p => !p.1.sameKey (.string (feK x))) = (cutK feK (feK x) E).map feD := by
    rw [List.filter_map]; rfl
  show DataW.map (DataW.insert (feD x) ((E.map feD).filter fun p => !p.1.sameKey (.string (feK x)))) = _
  rw [e1, insert_feD]; rfl
theorem FD_del (u : List UInt8) (E : List FE) : (FD E).del (.string u) = FD (cutK feK u E) := by
  show DataW.map ((E.map feD).filter fun p => !p.1.sameKey (.string u)) = _
  rw [List.filter_map]; rfl
theorem FD_has (u : List UInt8) (E : List FE) : Maps.has (FD E) (.string u) = (getK feK u E).isSome := by
  show (E.map feD).any (fun p => p.1.sameKey (.string u)) = _
  rw [List.any_map, getK, List.isSome_find?]; rfl
theorem FD_at (u : List UInt8) (E : List FE) (z : DataW Value) : (FD E).atKey (.string u) z = (match getK feK u E with | some x => .held (.agg #[x.v, .int .i64 (sumZ x.ps : Nat)]) | none => z) := by
  have e : E.find? ((fun p : Lit × DataW Value => p.1.sameKey (.string u)) ∘ feD) = getK feK u E := rfl
  unfold FD DataW.atKey
  simp only [List.find?_map, e]
  cases getK feK u E <;> rfl
theorem FD_size (E : List FE) : Maps.size (FD E) = E.length := by
  show (E.map feD).length = _
  simp
end Go.Proofs.Ytanjlpgdmnapdaa
namespace Go.Proofs.Ytanjlpgdmnapdaa
open Go.RowKit Go.Maps
set_option linter.unusedSimpArgs false
set_option linter.unusedVariables false

theorem bl_eqL : ∀ a b : List UInt8, Op.bytesLess a b = bytesBefore a b
  | [], [] => rfl
  | [], _ :: _ => rfl
  | _ :: _, [] => rfl
  | a :: x, b :: y => by
    rw [Op.bytesLess, bytesBefore, bl_eqL x y]
theorem bl_eq (a b : ByteArray) : Op.bytesLess a.toList b.toList = bytesBefore a.data.toList b.data.toList := by
  rw [bl_eqL, ByteArray.toList_eq, ByteArray.toList_eq]
theorem impl_fileName (n d : ByteArray) (w : World) : Calls Try.prog 77 #[.agg #[.string n, .string d]] w fun e w' => e = .returned (.string n) ∧ Below w.heap.size w w' := by
  go_enter Try.func77, Try.ntmps77
  go_wp2_with fail
  go_ret
  exact ⟨rfl, by go_grown⟩
def nameB (s : ByteArray) : Bool := decide (1 ≤ s.size ∧ s.size ≤ 100)
theorem impl_isFileName (s : ByteArray) (w : World) (hs : s.size ≤ maxLen) : Calls Try.prog 78 #[.string s] w fun e w' => e = .returned (.bool (nameB s)) ∧ w' = w := by
  unfold maxLen at hs
  by_cases h1 : 1 ≤ (s.size : Int)
  · by_cases h2 : (s.size : Int) ≤ 100
    · go_enter Try.func78, Try.ntmps78
      go_wp2_with fail
      go_ret
      exact ⟨ret_bool (by unfold nameB; symm; rw [decide_eq_true_eq]; omega), rfl⟩
    · go_enter Try.func78, Try.ntmps78
      go_wp2_with fail
      go_ret
      exact ⟨ret_bool (by unfold nameB; symm; rw [decide_eq_false_iff_not]; omega), rfl⟩
  · go_enter Try.func78, Try.ntmps78
    go_wp2_with fail
    go_ret
    exact ⟨ret_bool (by unfold nameB; symm; rw [decide_eq_false_iff_not]; omega), rfl⟩
set_option maxHeartbeats 2000000 in
theorem impl_risesF {A : Option Addr} {n cap : Nat} {L : List FI} (w : World) (h : FiRow w A L) (hL : L.length = n) :
    Calls Try.prog 76 #[.slice A n cap, .func (.func 77) #[] #[]] w fun e w' => e = .returned (.bool (ascB L)) ∧ Below w.heap.size w w' := by
  have HR : Hid (FiRow w A L) := h
  have HL : Hid (L.length = n) := hL
  have hn := h.1
  rw [hL] at hn
  unfold maxLen at hn
  clear h hL
  go_enter Try.func76, Try.ntmps76
  go_wp2_with fail
  go_loopw [5] (fun i wr => ∃ t : Nat, i = .int .i64 (t : Int) ∧ 1 ≤ t ∧ t ≤ n + 1 ∧ (∀ j x y, j + 1 < t → L[j]? = some x → L[j + 1]? = some y → bytesBefore (fiK x) (fiK y) = true) ∧ Below w.heap.size w wr) (fun i _ => n + 1 - (intOf i).toNat)
  case atStart => exact ⟨1, rfl, Nat.le_refl _, by omega, fun j x y hj => by omega, Below.refl _ _⟩
  case round =>
    obtain ⟨t, rfl, ht1, ht, hall, hbel⟩ := hrel
    have HA : Hid (∀ j x y, j + 1 < t → L[j]? = some x → L[j + 1]? = some y → bytesBefore (fiK x) (fiK y) = true) := hall
    clear hall
    by_cases hlt : t < n
    · obtain ⟨m, HM⟩ : ∃ m, Hid (t = m + 1) := ⟨t - 1, (by omega : t = t - 1 + 1)⟩
      obtain ⟨x, hx⟩ := at_lt HL.out (show m < n by have := HM.out; omega)
      obtain ⟨y, hy⟩ := at_lt HL.out hlt
      have HX : Hid (L[m]? = some x) := hx
      have HY : Hid (L[m + 1]? = some y) := by have h := hy; rw [HM.out] at h; exact h
      obtain ⟨b, o, rfl, hl, hc⟩ := HR.out.2 m x hx
      have c0 : w.cell? ⟨b, o + m * 2, none⟩ = some (.string x.n) := hc 0 _ rfl
      have c1 : w.cell? ⟨b, o + m * 2 + 1, none⟩ = some (.string x.d) := hc 1 _ rfl
      obtain ⟨b', o', e, _, hc'⟩ := HR.out.2 t y hy
      cases e
      have d0 : w.cell? ⟨b, o + t * 2, none⟩ = some (.string y.n) := hc' 0 _ rfl
      have d1 : w.cell? ⟨b, o + t * 2 + 1, none⟩ = some (.string y.d) := hc' 1 _ rfl
      clear hc hc' hx hy
      have hs := hbel.size
      have hW := fun b o h => hbel.cell (p := ⟨b, o, none⟩) h
      have q0 : (0 : Int) ≤ (t : Int) := by omega
      have q1 : (t : Int) < (n : Int) := by omega
      have q2 : (0 : Int) ≤ (m : Int) := by omega
      have q3 : (m : Int) < (n : Int) := by have := HM.out; omega
      have q4 : IntKind.i64.wrap ((t : Int) - 1) = (m : Int) := by rw [IntKind.wrap_i64]; have := HM.out; omega
      cases hq : bytesBefore (fiK x) (fiK y)
      · have hq2 : Op.bytesLess x.n.toList y.n.toList = false := (bl_eq _ _).trans hq
        have HQ : Hid (bytesBefore (fiK x) (fiK y) = false) := hq
        clear hq
        go_wp2_with fail
        go_region_held3 (fun w' => (∀ bq oq, bq < w.heap.size → w'.cell? ⟨bq, oq, none⟩ = w.cell? ⟨bq, oq, none⟩) ∧ w.heap.size ≤ w'.heap.size ∧ Below w.heap.size w w')
          (exact sc_of (Nat.le_refl _) (by go_grown))
          (first
          | (go_at_call 77; refine (impl_fileName _ _ _).mono ?_; rintro e w1 ⟨rfl, hb⟩; obtain ⟨hk1, hz1⟩ := bframe (B := w.heap.size) (X := w) (by go_grown) (by go_size) hb; clear hb))
        all_goals
          go_wp2_with fail
          go_ret
          exact ⟨ret_bool (asc_no HX.out HY.out HQ.out).symm, by go_grown⟩
      · have hq2 : Op.bytesLess x.n.toList y.n.toList = true := (bl_eq _ _).trans hq
        have HQ : Hid (bytesBefore (fiK x) (fiK y) = true) := hq
        clear hq
        go_wp2_with fail
        go_region_held3 (fun w' => (∀ bq oq, bq < w.heap.size → w'.cell? ⟨bq, oq, none⟩ = w.cell? ⟨bq, oq, none⟩) ∧ w.heap.size ≤ w'.heap.size ∧ Below w.heap.size w w')
          (exact sc_of (Nat.le_refl _) (by go_grown))
          (first
          | (go_at_call 77; refine (impl_fileName _ _ _).mono ?_; rintro e w1 ⟨rfl, hb⟩; obtain ⟨hk1, hz1⟩ := bframe (B := w.heap.size) (X := w) (by go_grown) (by go_size) hb; clear hb))
        all_goals
          go_wp2_with fail
          go_roundw
          case rel => exact ⟨t + 1, by go_num, by omega, by omega, fun j u v hj hu hv => by
            by_cases e : j = m
            · subst e; rw [HX.out] at hu; rw [HY.out] at hv; cases hu; cases hv; exact HQ.out
            · exact HA.out j u v (by have := HM.out; omega) hu hv, by go_grown⟩
          case measure => simp [intOf]; omega
    · have h1 : ¬ (t : Int) < (n : Int) := by omega
      go_wp2_with fail
      go_ret
      exact ⟨ret_bool (by symm; exact asc_of fun j x y hx hy => HA.out j x y (by have := (List.getElem?_eq_some_iff.1 hy).1; have := HL.out; omega) hx hy), hbel⟩
end Go.Proofs.Ytanjlpgdmnapdaa
namespace Go.Proofs.Ytanjlpgdmnapdaa
open Go.RowKit Go.Maps
set_option linter.unusedSimpArgs false
set_option linter.unusedVariables false

theorem strK : Keyed Try.prog 9 := string_keyed Try.underlying9
theorem zeroPc (w : World) : (zeroValue 118).run Try.prog w = .ok (.agg #[.slice none 0 0, .int .i64 0]) w := by kernel_rfl
theorem foKey {s : ByteArray} (hs : s.size ≤ maxLen) : keyOf Try.prog 9 (.string s) = some (.string s.data.toList) := Go.WideMaps.keyOf_string_mk Try.underlying9 hs
theorem infoStr : (Try.prog.info? 9).map (fun i => (i.zero, i.size, i.bytes)) = some (some (.string ⟨#[]⟩), 1, 16) := by kernel_rfl

/-- A folder: block b; its files' pieces lie in rows of their own. -/
structure Fold (w : World) (B b m : Nat) (E : List FE) : Prop where
  own : w.ownsMap Try.prog 9 pcE b m (FD E)
  up : Up feK E
  base : B ≤ b
  rows : ∀ x ∈ E, w.ownsRow B 9 1 x.v x.ps.length (x.ps.map Value.string)
  apart : ∀ x ∈ E, ∀ y ∈ E, feK x ≠ feK y → x.v.ownBlock = none ∨ x.v.ownBlock ≠ y.v.ownBlock
  names : ∀ x ∈ E, x.n.size ≤ maxLen
theorem own_map_ne {w : World} {B b m n s : Nat} {e k : TypeId} {R : Value → Option (DataW Value × List MemPlace)} {D : DataW Value} {v : Value} {xs : List Value} (h : w.ownsMap Try.prog k R b m D) (h' : w.ownsRow B e s v n xs) : some b ≠ v.ownBlock := by
  intro e1
  obtain ⟨es, clock, hb, _⟩ := h
  rcases h'.2 with ⟨rfl, _⟩ | ⟨g, cap, cur, rfl, _, hg, _⟩
  · cases e1
  · cases e1
    rw [hb] at hg
    cases hg
theorem Fold.kept {w w' : World} {B b m : Nat} {E : List FE} {row : Option Nat} (h : Fold w B b m E) (hg : w.grownBy w' row) (hb : some b ≠ row) (hr : ∀ x ∈ E, x.v.ownBlock = none ∨ x.v.ownBlock ≠ row) : Fold w' B b m E :=
  ⟨h.own.kept hg hb, h.up, h.base, fun x hx => (h.rows x hx).kept hg (hr x hx), h.apart, h.names⟩
theorem Fold.below {w w' : World} {B b m : Nat} {E : List FE} (h : Fold w B b m E) (hb : Below w.heap.size w w') : Fold w' B b m E :=
  h.kept (grown_below none hb) (by simp) (fun x _ => by cases x.v.ownBlock <;> simp)
theorem Fold.mono {w : World} {B B' b m : Nat} {E : List FE} (h : Fold w B b m E) (hB : B' ≤ B) : Fold w B' b m E :=
  ⟨h.own, h.up, Nat.le_trans hB h.base, fun x hx => own_mono (h.rows x hx) hB, h.apart, h.names⟩
def foV (E : List FE) (u : List UInt8) : Value := match getK feK u E with | some x => x.v | none => .slice none 0 0
def foP (E : List FE) (u : List UInt8) : List ByteArray := match getK feK u E with | some x => x.ps | none => []
theorem fo_at (E : List FE) (u : List UInt8) : (FD E).atKey (.string u) (.held (.agg #[.slice none 0 0, .int .i64 0])) = .held (.agg #[foV E u, .int .i64 (sumZ (foP E u) : Nat)]) := by
  rw [FD_at, foV, foP]
  cases getK feK u E <;> rfl
theorem own_nil {w : World} {B : Nat} {e : TypeId} {s : Nat} : w.ownsRow B e s (.slice none 0 0) 0 [] := ⟨by simp, Or.inl ⟨rfl, rfl⟩⟩
theorem Fold.row {w : World} {B b m : Nat} {E : List FE} (h : Fold w B b m E) (u : List UInt8) : w.ownsRow B 9 1 (foV E u) (foP E u).length ((foP E u).map Value.string) := by
  rw [foV, foP]
  cases hg : getK feK u E with
  | none => exact own_nil
  | some x => exact h.rows x (getK_some hg).1
theorem Fold.others {w : World} {B b m : Nat} {E : List FE} (h : Fold w B b m E) (u : List UInt8) : ∀ y ∈ E, feK y ≠ u → y.v.ownBlock = none ∨ y.v.ownBlock ≠ (foV E u).ownBlock := by
  intro y hy hne
  rw [foV]
  cases hg : getK feK u E with
  | none => cases y.v.ownBlock <;> simp [Value.ownBlock]
  | some x => exact h.apart y hy x (getK_some hg).1 (by rw [(getK_some hg).2]; exact hne)

section
variable {P : Program} (w : World) {ops : Array Oper} {rest : List Oper} {o : Oper} {a : Act} {Q : Exit → Act → World → Prop}
/-- 'files[name]' -/
theorem wpList_lookup_fo (hg : o.guard = none) (m x : Operand) (hop : o.op = Op.lookup 71 m x false) (b n : Nat) (E : List FE)
    (hm : a.eval m = .map (some b)) (hown : w.ownsMap Try.prog 9 pcE b n (FD E)) (s : ByteArray) (hx : a.eval x = .string s) (hs : s.size ≤ maxLen)
    (hK : wpList Try.prog ops Q rest (a.put o.dst (.agg #[foV E s.data.toList, .int .i64 (sumZ (foP E s.data.toList) : Nat)])) w) :
    wpList Try.prog ops Q (o :: rest) a w := by
  refine wpList_plain hg fun K' hK' => ?_
  obtain ⟨v, ps, hrun, hv⟩ := hown.lookup strK Try.underlying71 (zeroPc w) (pcE_mk _ _) (foKey hs)
  rw [fo_at] at hv
  obtain ⟨y, z, rfl, e⟩ := pcE_inv hv
  simp only [Prod.mk.injEq, DataW.held.injEq] at e
  rw [← e.1] at hrun
  unfold Oper.wp
  simp [execOp, hop, hm, hx, hrun, Result.andThen]
  exact hK' _ _ hK
/-- '_, ok := files[name]' -/
theorem wpList_look2_fo (hg : o.guard = none) (m x : Operand) (hop : o.op = Op.lookup 71 m x true) (b n : Nat) (E : List FE)
    (hm : a.eval m = .map (some b)) (hown : w.ownsMap Try.prog 9 pcE b n (FD E)) (s : ByteArray) (hx : a.eval x = .string s) (hs : s.size ≤ maxLen)
    (hK : wpList Try.prog ops Q rest (a.put o.dst (.tuple #[.agg #[foV E s.data.toList, .int .i64 (sumZ (foP E s.data.toList) : Nat)], .bool (getK feK s.data.toList E).isSome])) w) :
    wpList Try.prog ops Q (o :: rest) a w := by
  refine wpList_lookup_own_ok w hg m x _ hop _ _ strK Try.underlying71 pcE (zeroPc w) _ _ (pcE_mk _ _) b n _ hm hown _ _ hx (foKey hs) (fun v ps hv => ?_)
  rw [fo_at] at hv
  obtain ⟨y, z, rfl, e⟩ := pcE_inv hv
  simp only [Prod.mk.injEq, DataW.held.injEq] at e
  rw [← e.1, FD_has]
  exact hK
end
/-- 'files[name] = p', at a step of a region that draws its order. -/
theorem step_mapUpdate_fo {w : World} {ops : Array Oper} {o : Oper} {a : Act} {K : Act → World → Prop} {Q : Exit → Act → World → Prop} {C : Prop} (hgd : o.guard = none) (m x v : Operand) (hop : o.op = Op.mapUpdate 71 m x v) (b n : Nat) (E : List FE)
    (hm : a.eval m = .map (some b)) (hown : w.ownsMap Try.prog 9 pcE b n (FD E)) (hn : n < maxLen) (e : FE) (hx : a.eval x = .string e.n) (hs : e.n.size ≤ maxLen) (hv : a.eval v = .agg #[e.v, .int .i64 (sumZ e.ps : Nat)])
    (h : ∀ w', w'.ownsMap Try.prog 9 pcE b (n + 1) (FD (putK feK e E)) → w.grownBy w' (some b) → w'.heap.size = w.heap.size → K (a.put o.dst undef) w') :
    if Region.wanted o (yielded ops a.tmps) = true then Oper.wp Try.prog o a w K Q else C := by
  have hw : Region.wanted o (yielded ops a.tmps) = true := by simp [Region.wanted, hgd]
  rw [if_pos hw]
  obtain ⟨w', hrun, r1, r2⟩ := hown.store strK Try.underlying71 hn (foKey hs) (pcE_mk e.v (sumZ e.ps : Nat))
  have r3 : w'.heap.size = w.heap.size := by
    obtain ⟨es, cl, es', cl', _, rfl⟩ := r2
    simp [Go.ChangeMaps.setBlock]
  have hp := FD_put e E
  unfold feK at hp
  rw [hp] at r1
  unfold Oper.wp
  simp [execOp, hop, hm, hx, hv, hrun, Result.andThen]
  exact h w' r1 r2.grown r3
end Go.Proofs.Ytanjlpgdmnapdaa
