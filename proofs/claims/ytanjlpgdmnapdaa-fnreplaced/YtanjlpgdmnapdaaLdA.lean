import Derived.Test.YtanjlpgdmnapdaaDkK
import Derived.Test.YtanjlpgdmnapdaaDkC
namespace Go.Proofs.Ytanjlpgdmnapdaa
open Go.RowKit Go.Maps
set_option linter.unusedSimpArgs false
set_option linter.unusedVariables false

theorem impl_Do {v : Value} {d : DK} (x : DP) (w : World) (h : DkRow w v d) (hl : DkLil d) (hx : dpLil x) :
    Calls Try.prog 20 #[v, .agg #[.int .i64 x.k, .string x.n, .string x.t, .string x.d]] w fun e w' => ∃ v', e = .returned (.tuple #[v', .int .i64 (sdK d x)]) ∧ DkOwn w' w.heap.size v' (sdD d x) ∧ Below w.heap.size w w' := by
  cases hd : diskB d with
  | false => exact impl_Do_no x w h hl hx hd
  | true =>
    by_cases h0 : doK d x = 0
    · exact impl_Do_done x w h hl hx hd h0
    · exact impl_Do_err x w h hl hx hd h0
theorem doL_len (x : DP) (L : List FI) : (doL x L).length ≤ L.length + 1 := len_do x L
theorem sdD_len {d : DK} {x : DP} (h : DkLil d) : (sdD d x).live.length ≤ 1048576 ∧ (sdD d x).safe.length ≤ 1048576 ∧ (sdD d x).ops.length ≤ 1048576 := by
  have h1 := h.n1; have h2 := h.n2; have h3 := h.n3
  unfold sdD
  split
  · rename_i hd
    obtain ⟨q1, q2, q3⟩ := disk_parts hd
    obtain ⟨l60, _, _, _⟩ := files_parts q1
    by_cases h0 : doK d x = 0
    · rw [acD_yes h0]
      have := len_do x d.live
      refine ⟨?_, h2, ?_⟩
      · show (doL x d.live).length ≤ _; omega
      · show (d.ops ++ [x]).length ≤ _; rw [List.length_append]; simp; omega
    · rw [acD_no h0]; exact ⟨h1, h2, h3⟩
  · exact ⟨Nat.zero_le _, Nat.zero_le _, Nat.zero_le _⟩
/-- A fresh box of a disk. -/
structure BoxZ (u : World) (g : Nat) : Prop where
  c0 : u.cell? ⟨g, 0, none⟩ = some (.slice none 0 0)
  c1 : u.cell? ⟨g, 1, none⟩ = some (.slice none 0 0)
  c2 : u.cell? ⟨g, 2, none⟩ = some (.slice none 0 0)
  nf : ∀ o, u.frozen? ⟨g, o, none⟩ = false
  gb : ∃ c r, u.heap[g]? = some (.cells c 27 r)
theorem BoxZ.lt {u : World} {g : Nat} (h : BoxZ u g) : g < u.heap.size := World.block_lt_of_cell? u ⟨g, 0, none⟩ h.c0
theorem BoxZ.below {u u' : World} {g : Nat} (h : BoxZ u g) (hb : Below u.heap.size u u') : BoxZ u' g := by
  have hg := h.lt
  obtain ⟨c0, c1, c2, nf, ⟨c, r, gb⟩⟩ := h
  exact ⟨cy hb c0, cy hb c1, cy hb c2, fun o => (hb.frozen (p := ⟨g, o, none⟩) hg).trans (nf o), ⟨c, r, (hb.block g hg).trans gb⟩⟩
theorem BoxZ.at {u : World} : BoxZ (u.alloc (.cells #[.slice none 0 0, .slice none 0 0, .slice none 0 0] 27)) u.heap.size := by
  refine ⟨by simp, by simp, by simp, fun o => ?_, ⟨_, _, blk_at rfl⟩⟩
  go_simp
theorem BoxZ.drew {u : World} {g : Nat} (h : BoxZ u g) : BoxZ u.drew g := ⟨h.c0, h.c1, h.c2, h.nf, h.gb⟩
theorem DkHas.below {w w' : World} {B : Nat} {v : Value} {d : DK} (h : DkHas w B v d) (hb : Below w.heap.size w w') : DkHas w' B v d := by
  obtain ⟨v1, v2, v3, e, h1, h2, h3⟩ := h
  exact ⟨v1, v2, v3, e, own_below h1 hb, own_below h2 hb, own_below h3 hb⟩
/-- What the specification answered, put into its box. -/
structure SpR (X : World) (g : Nat) (v1 v2 v3 : Value) (D : DK) (u : World) : Prop where
  c0 : u.cell? ⟨g, 0, none⟩ = some v1
  c1 : u.cell? ⟨g, 1, none⟩ = some v2
  c2 : u.cell? ⟨g, 2, none⟩ = some v3
  has : DkHas u X.heap.size (.agg #[v1, v2, v3]) D
  bel : Below X.heap.size X u
  lo : X.heap.size ≤ g
  hi : g < u.heap.size
theorem cell3 {u : World} {g : Nat} {v1 v2 v3 : Value} (h : BoxZ u g) : (((u.setCell ⟨g, 0, none⟩ v1).setCell ⟨g, 1, none⟩ v2).setCell ⟨g, 2, none⟩ v3).cell? ⟨g, 0, none⟩ = some v1 ∧
    (((u.setCell ⟨g, 0, none⟩ v1).setCell ⟨g, 1, none⟩ v2).setCell ⟨g, 2, none⟩ v3).cell? ⟨g, 1, none⟩ = some v2 ∧ (((u.setCell ⟨g, 0, none⟩ v1).setCell ⟨g, 1, none⟩ v2).setCell ⟨g, 2, none⟩ v3).cell? ⟨g, 2, none⟩ = some v3 := by
  refine ⟨?_, ?_, ?_⟩
  · rw [World.cell?_setCell_other _ _ _ _ (by intro e; cases e), World.cell?_setCell_other _ _ _ _ (by intro e; cases e)]; exact cell_blk h.c0 _
  · rw [World.cell?_setCell_other _ _ _ _ (by intro e; cases e)]
    exact cell_blk (x := .slice none 0 0) (by rw [World.cell?_setCell_other _ _ _ _ (by intro e; cases e)]; exact h.c1) _
  · exact cell_blk (x := .slice none 0 0) (by rw [World.cell?_setCell_other _ _ _ _ (by intro e; cases e), World.cell?_setCell_other _ _ _ _ (by intro e; cases e)]; exact h.c2) _
theorem own_set3 {u : World} {g B : Nat} {e : TypeId} {s n : Nat} {v v1 v2 v3 : Value} {xs : List Value} (hz : BoxZ u g) (h : u.ownsRow B e s v n xs) (hne : e ≠ 27) :
    (((u.setCell ⟨g, 0, none⟩ v1).setCell ⟨g, 1, none⟩ v2).setCell ⟨g, 2, none⟩ v3).ownsRow B e s v n xs := by
  obtain ⟨c, r, gb⟩ := hz.gb
  obtain ⟨c', h1⟩ := set_blk (o := 0) (x := v1) gb
  obtain ⟨c'', h2⟩ := set_blk (o := 1) (x := v2) h1
  exact own_setG (own_setG (own_setG h gb hne _ _) h1 hne _ _) h2 hne _ _
theorem bel_set3 {X u : World} {g : Nat} {v1 v2 v3 : Value} (h : Below X.heap.size X u) (lo : X.heap.size ≤ g) : Below X.heap.size X (((u.setCell ⟨g, 0, none⟩ v1).setCell ⟨g, 1, none⟩ v2).setCell ⟨g, 2, none⟩ v3) := ((h.setCell lo _).setCell lo _).setCell lo _
theorem SpR.of {X u : World} {g : Nat} {v1 v2 v3 : Value} {D : DK} (hz : BoxZ u g) (hr : DkHas u X.heap.size (.agg #[v1, v2, v3]) D) (hbel : Below X.heap.size X u) (lo : X.heap.size ≤ g) :
    SpR X g v1 v2 v3 D (((u.setCell ⟨g, 0, none⟩ v1).setCell ⟨g, 1, none⟩ v2).setCell ⟨g, 2, none⟩ v3) := by
  obtain ⟨k0, k1, k2⟩ := cell3 (v1 := v1) (v2 := v2) (v3 := v3) hz
  obtain ⟨w1, w2, w3, e, h1, h2, h3⟩ := hr
  cases e
  exact ⟨k0, k1, k2, ⟨_, _, _, rfl, own_set3 hz h1 (by decide), own_set3 hz h2 (by decide), own_set3 hz h3 (by decide)⟩, bel_set3 hbel lo, lo, by simpa using hz.lt⟩
/-- What the program answered, put into its box. -/
structure ImR (X : World) (g : Nat) (v1 v2 v3 : Value) (D : DK) (u : World) : Prop where
  c0 : u.cell? ⟨g, 0, none⟩ = some v1
  c1 : u.cell? ⟨g, 1, none⟩ = some v2
  c2 : u.cell? ⟨g, 2, none⟩ = some v3
  own : DkOwn u X.heap.size (.agg #[v1, v2, v3]) D
  bel : Below X.heap.size X u
  lo : X.heap.size ≤ g
  hi : g < u.heap.size
  nb : ¬ some g ∈ blks (.agg #[v1, v2, v3])
theorem ImR.of {X u : World} {g : Nat} {v1 v2 v3 : Value} {D : DK} (hz : BoxZ u g) (hr : DkOwn u X.heap.size (.agg #[v1, v2, v3]) D) (hbel : Below X.heap.size X u) (lo : X.heap.size ≤ g) :
    ImR X g v1 v2 v3 D (((u.setCell ⟨g, 0, none⟩ v1).setCell ⟨g, 1, none⟩ v2).setCell ⟨g, 2, none⟩ v3) := by
  obtain ⟨k0, k1, k2⟩ := cell3 (v1 := v1) (v2 := v2) (v3 := v3) hz
  obtain ⟨w1, w2, w3, e, h1, h2, h3, h4⟩ := hr
  cases e
  obtain ⟨c, r, gb⟩ := hz.gb
  refine ⟨k0, k1, k2, ⟨_, _, _, rfl, own_set3 hz h1 (by decide), own_set3 hz h2 (by decide), own_set3 hz h3 (by decide), h4⟩, bel_set3 hbel lo, lo, by simpa using hz.lt, ?_⟩
  intro hm
  simp only [blks, List.map_cons, List.map_nil, List.mem_cons, List.not_mem_nil, or_false] at hm
  rcases hm with e | e | e
  · exact own_ne_blk h1 gb (by decide) e.symm
  · exact own_ne_blk h2 gb (by decide) e.symm
  · exact own_ne_blk h3 gb (by decide) e.symm
end Go.Proofs.Ytanjlpgdmnapdaa
