import Derived.Test.YtanjlpgdmnapdaaGl
namespace Go.Proofs.Ytanjlpgdmnapdaa
open Go.RowKit Go.Maps
set_option linter.unusedSimpArgs false
set_option linter.unusedVariables false

def DpCell (W : World) (g : Nat) (f : DP) : Prop := W.cell? ⟨g, 0, none⟩ = some (.int .i64 f.k) ∧ W.cell? ⟨g, 1, none⟩ = some (.string f.n) ∧ W.cell? ⟨g, 2, none⟩ = some (.string f.t) ∧ W.cell? ⟨g, 3, none⟩ = some (.string f.d)
theorem DpCell.below {W W' : World} {g : Nat} {f : DP} (h : DpCell W g f) (hb : Below W.heap.size W W') : DpCell W' g f := ⟨cy hb h.1, cy hb h.2.1, cy hb h.2.2.1, cy hb h.2.2.2⟩
theorem DpCell.at {W : World} {f : DP} : DpCell (W.alloc (.cells #[.int .i64 f.k, .string f.n, .string f.t, .string f.d] 36)) W.heap.size f := by
  refine ⟨?_, ?_, ?_, ?_⟩ <;> simp
theorem set_blk {W : World} {g o : Nat} {c : Array Value} {t : TypeId} {r : Nat × Nat} {x : Value} (h : W.heap[g]? = some (.cells c t r)) : ∃ c', (W.setCell ⟨g, o, none⟩ x).heap[g]? = some (.cells c' t r) := by
  refine ⟨c.setIfInBounds o x, ?_⟩
  have hl := (Array.getElem?_eq_some_iff.1 h).1
  simp [World.setCell, Array.getElem?_modify, h]
/-- 'append(list, op)' at a step of a region that draws: the op lies in a block of its own. -/
theorem step_app_dp {W : World} {ops : Array Oper} {o : Oper} {a : Act} {K : Act → World → Prop} {Q : Exit → Act → World → Prop} {E : Prop} (hgd : o.guard = none) (s x : Operand) (ho : o.op = .call { callee := .builtin .append, args := #[s, x], argTypes := #[25, 25] }) (B : Nat) (v : Value) (n : Nat) (xs : List Value) (hs : a.eval s = v)
    (hown : W.ownsRow B 36 4 v n xs) (f : DP) (g : Nat) (hx : a.eval x = .slice (some ⟨g, 0, none⟩) 1 1) (hc : DpCell W g f) (hn : n ≤ 1099511627776) (hB : B ≤ W.heap.size)
    (h : ∀ v' w', w'.ownsRow B 36 4 v' (n + 1) (xs ++ dpL f) → W.grownBy w' v.ownBlock → K (a.put o.dst v') w') :
    if Region.wanted o (yielded ops a.tmps) = true then Oper.wp Try.prog o a W K Q else E := by
  have hw : Region.wanted o (yielded ops a.tmps) = true := by simp [Region.wanted, hgd]
  rw [if_pos hw]
  obtain ⟨i0, hi, iz0, iz1, iz2⟩ := info_parts infoDp
  obtain ⟨c0, c1, c2, c3⟩ := hc
  refine wp_append_own W s x 25 ho B 36 i0 (.agg #[.int .i64 0, .string ⟨#[]⟩, .string ⟨#[]⟩, .string ⟨#[]⟩]) 4 56 Try.underlying25 hi iz0 iz1 iz2 rfl (by decide) v n xs hs hown ⟨g, 0, none⟩ 1 1 [.int .i64 f.k, .string f.n, .string f.t, .string f.d] hx rfl ?_ ?_ ?_ ?_ hB ?_
  · intro q u hq
    match q, hq with
    | 0, hq => simp at hq; subst hq; simpa [Addr.add] using c0
    | 1, hq => simp at hq; subst hq; simpa [Addr.add] using c1
    | 2, hq => simp at hq; subst hq; simpa [Addr.add] using c2
    | 3, hq => simp at hq; subst hq; simpa [Addr.add] using c3
  · intro u hu; simp at hu; rcases hu with rfl | rfl | rfl | rfl <;> rfl
  · unfold maxLen; omega
  · omega
  · intro v' w3 hown' hgrow _
    exact h v' w3 hown' hgrow
/-- What stays as it is while line 205 runs. -/
structure DoS (B g b m : Nat) (L : List FI) (v2 : Value) (S : List FI) (w4 u : World) : Prop where
  fold : FoldL u B b m L
  o2 : u.ownsRow B 75 2 v2 S.length (flat fiL S)
  c0 : ∃ x, u.cell? ⟨g, 0, none⟩ = some x
  c1 : u.cell? ⟨g, 1, none⟩ = some v2
  c2 : ∃ x, u.cell? ⟨g, 2, none⟩ = some x
  nf : ∀ o, u.frozen? ⟨g, o, none⟩ = false
  gb : ∃ c r, u.heap[g]? = some (.cells c 27 r)
  bel : Below B w4 u
theorem DoS.below {B g b m : Nat} {L : List FI} {v2 : Value} {S : List FI} {w4 u u' : World} (h : DoS B g b m L v2 S w4 u) (hB : B ≤ u.heap.size) (hb : Below u.heap.size u u') : DoS B g b m L v2 S w4 u' := by
  obtain ⟨h1, h2, ⟨x0, c0⟩, c1, ⟨x2, c2⟩, nf, ⟨c, r, gb⟩, bl⟩ := h
  have hg : g < u.heap.size := (Array.getElem?_eq_some_iff.1 gb).1
  exact ⟨h1.below hb, own_below h2 hb, ⟨x0, cy hb c0⟩, cy hb c1, ⟨x2, cy hb c2⟩, fun o => (hb.frozen (p := ⟨g, o, none⟩) hg).trans (nf o), ⟨c, r, (hb.block g hg).trans gb⟩, bl.trans (hb.mono hB)⟩
theorem FoldL.keptG {w w' : World} {B B' b m n : Nat} {L : List FI} {v : Value} {xs : List Value} (h : FoldL w B b m L) (hv : w.ownsRow B' 36 4 v n xs) (hg : w.grownBy w' v.ownBlock) : FoldL w' B b m L := by
  obtain ⟨E, hF, e, hp⟩ := h
  exact ⟨E, hF.kept hg (own_map_ne hF.own hv) (fun x hx => own_ne_tyG (hF.rows x hx) hv (by decide)), e, hp⟩
theorem DoS.grown {B g b m n : Nat} {L : List FI} {v2 v3 : Value} {S : List FI} {xs : List Value} {w4 u u' : World} (h : DoS B g b m L v2 S w4 u) (hB : B ≤ u.heap.size) (hv : u.ownsRow B 36 4 v3 n xs) (hg : u.grownBy u' v3.ownBlock) : DoS B g b m L v2 S w4 u' := by
  obtain ⟨h1, h2, ⟨x0, c0⟩, c1, ⟨x2, c2⟩, nf, ⟨c, r, gb⟩, bl⟩ := h
  have hgl : g < u.heap.size := (Array.getElem?_eq_some_iff.1 gb).1
  have hne : some g ≠ v3.ownBlock := fun e => own_ne_blk hv gb (by decide) e.symm
  refine ⟨h1.keptG hv hg, h2.kept hg (own_ne_tyG h2 hv (by decide)), ⟨x0, hg.cell c0 hne⟩, hg.cell c1 hne, ⟨x2, hg.cell c2 hne⟩, fun o => (World.frozen?_of_block (hg.block g hgl hne)).trans (nf o), ⟨c, r, (hg.block g hgl hne).trans gb⟩, bl.trans ⟨hg.os, hg.tape, hg.output, hg.size, fun q hq => hg.block q (by omega) (fun e => ?_)⟩⟩
  have := hv.lt q e.symm
  omega
theorem DoS.set {B g b m : Nat} {L : List FI} {v2 : Value} {S : List FI} {w4 u : World} (h : DoS B g b m L v2 S w4 u) (hB : B ≤ g) (o : Nat) (x : Value) : Below B w4 (u.setCell ⟨g, o, none⟩ x) := h.bel.setCell hB _
theorem cell_blk {W : World} {g o : Nat} {x : Value} (h : W.cell? ⟨g, o, none⟩ = some x) (u : Value) : (W.setCell ⟨g, o, none⟩ u).cell? ⟨g, o, none⟩ = some u := World.cell?_setCell_same _ _ _ (by rw [h])
/-- Behind line 205. -/
structure DoE (B g : Nat) (L S : List FI) (O : List DP) (v2 : Value) (w4 u : World) : Prop where
  ex : ∃ v1 v3, u.cell? ⟨g, 0, none⟩ = some v1 ∧ u.cell? ⟨g, 1, none⟩ = some v2 ∧ u.cell? ⟨g, 2, none⟩ = some v3 ∧ u.ownsRow B 75 2 v1 L.length (flat fiL L) ∧ u.ownsRow B 75 2 v2 S.length (flat fiL S) ∧ u.ownsRow B 36 4 v3 O.length (flat dpL O) ∧ (v1.ownBlock = none ∨ v1.ownBlock ≠ v2.ownBlock)
  bel : Below B w4 u
theorem DoE.of {B g b m : Nat} {L L' : List FI} {v1 v2 v3 : Value} {S : List FI} {O : List DP} {w4 u : World} (h : DoS B g b m L' v2 S w4 u) (hg : B ≤ g) (h1 : u.ownsRow B 75 2 v1 L.length (flat fiL L)) (h3 : u.ownsRow B 36 4 v3 O.length (flat dpL O)) (hne : v1.ownBlock = none ∨ v1.ownBlock ≠ v2.ownBlock) :
    DoE B g L S O v2 w4 ((u.setCell ⟨g, 0, none⟩ v1).setCell ⟨g, 2, none⟩ v3) := by
  obtain ⟨_, h2, ⟨x0, c0⟩, c1, ⟨x2, c2⟩, nf, ⟨c, r, gb⟩, bl⟩ := h
  have gb' := gb
  obtain ⟨c', hgb⟩ : ∃ c', (u.setCell ⟨g, 0, none⟩ v1).heap[g]? = some (.cells c' 27 r) := set_blk gb
  refine ⟨⟨v1, v3, ?_, ?_, ?_, ?_, ?_, ?_, hne⟩, (bl.setCell hg _).setCell hg _⟩
  · rw [World.cell?_setCell_other _ _ _ _ (by intro e; cases e)]; exact cell_blk c0 _
  · rw [World.cell?_setCell_other _ _ _ _ (by intro e; cases e), World.cell?_setCell_other _ _ _ _ (by intro e; cases e)]; exact c1
  · exact cell_blk (x := x2) (by rw [World.cell?_setCell_other _ _ _ _ (by intro e; cases e)]; exact c2) _
  · exact own_setG (own_setG h1 gb (by decide) _ _) hgb (by decide) _ _
  · exact own_setG (own_setG h2 gb (by decide) _ _) hgb (by decide) _ _
  · exact own_setG (own_setG h3 gb (by decide) _ _) hgb (by decide) _ _
theorem own_ne2 {W W' : World} {B : Nat} {e e' : TypeId} {s s' n n' : Nat} {v v' : Value} {xs xs' : List Value} (h : W.ownsRow B e s v n xs) (h' : W'.ownsRow W.heap.size e' s' v' n' xs') : v'.ownBlock = none ∨ v'.ownBlock ≠ v.ownBlock := by
  cases hv : v'.ownBlock with
  | none => exact Or.inl rfl
  | some g =>
    right
    intro e
    have h1 := (h'.lt g hv).1
    have h2 := (h.lt g e.symm).2
    omega
theorem grown_bel {W W' : World} {B n : Nat} {e : TypeId} {s : Nat} {v : Value} {xs : List Value} (h : W.ownsRow B e s v n xs) (hg : W.grownBy W' v.ownBlock) (hB : B ≤ W.heap.size) : Below B W W' :=
  ⟨hg.os, hg.tape, hg.output, hg.size, fun q hq => hg.block q (by omega) (fun e => by have := h.lt q e.symm; omega)⟩
set_option maxRecDepth 100000 in
set_option maxHeartbeats 8000000 in
theorem impl_Do_done {v : Value} {d : DK} (x : DP) (w : World) (h : DkRow w v d) (hl : DkLil d) (hx : dpLil x) (hd : diskB d = true) (h0 : doK d x = 0) :
    Calls Try.prog 20 #[v, .agg #[.int .i64 x.k, .string x.n, .string x.t, .string x.d]] w fun e w' => ∃ v', e = .returned (.tuple #[v', .int .i64 (sdK d x)]) ∧ DkOwn w' w.heap.size v' (sdD d x) ∧ Below w.heap.size w w' := by
  have HR : Hid (DkRow w v d) := h
  have HL : Hid (DkLil d) := hl
  have HX : Hid (dpLil x) := hx
  have HRR : Hid (diskB d = true) := hd
  obtain ⟨A1, c1, A2, c2, A3, c3, rfl, r1, r2, r3, z1, z2, z3⟩ := h
  obtain ⟨n1, HN1⟩ : ∃ n1, Hid (d.live.length = n1) := ⟨_, rfl⟩
  obtain ⟨n2, HN2⟩ : ∃ n2, Hid (d.safe.length = n2) := ⟨_, rfl⟩
  obtain ⟨n3, HN3⟩ : ∃ n3, Hid (d.ops.length = n3) := ⟨_, rfl⟩
  rw [HN1.out, HN2.out, HN3.out] at HR ⊢
  have HR1 : Hid (FiRow w A1 d.live) := r1
  clear r1 r2 r3 z1 z2 z3 hl hx hd
  have HE : Hid (sdD d x = ⟨doL x d.live, d.safe, d.ops ++ [x]⟩) := by show _ = _; rw [sdD, HRR.out, acD_yes h0]; rfl
  have HK : Hid (sdK d x = doK d x) := by show _ = _; rw [sdK, HRR.out]; rfl
  have HC : Hid (doC x d.live = 0) := by
    show _ = _
    rw [doK] at h0
    split at h0
    · cases h0
    · exact h0
  have h200 : ¬ 200 ≤ n3 := fun h9 => by rw [doK, HC.out, HN3.out, if_pos ⟨rfl, h9⟩] at h0; cases h0
  have H0 : Hid (doK d x = 0) := h0
  rw [HE.out, HK.out, H0.out]
  obtain ⟨q1, q2, q3⟩ := disk_parts HRR.out
  obtain ⟨l60, lup, lnm, ltt⟩ := files_parts q1
  have HFL : Hid (filesB d.live = true) := q1
  have HUP : Hid (Up fiK d.live) := lup
  have HNM : Hid (∀ y ∈ d.live, nameB y.n = true) := lnm
  have HTL : Hid (totL d.live ≤ 200000) := ltt
  have HFK : Hid (∀ y ∈ d.live, fiOk y) := fun y hy => fiOk_of (HL.out.l1 y hy)
  rw [HN1.out] at l60
  rw [HN3.out] at q3
  clear q1 q2 lup lnm ltt h0
  go_enter Try.func20, Try.ntmps20
  go_wp2_with fail
  refine (impl_DiskOk _ (HR.out.below (by go_grown)) HL.out).mono ?_
  rintro e w1 ⟨rfl, hb⟩
  rw [HRR.out]
  have p0 := cy hb (b := w.heap.size + 1 + 1) (o := 0) (x := .slice none 0 0) (by go_simp)
  have hz1 : w.heap.size + 1 + 1 < w1.heap.size := World.block_lt_of_cell? w1 ⟨w.heap.size + 1 + 1, 0, none⟩ p0
  have k0 := cy hb (b := w.heap.size) (o := 0) (x := .slice A1 n1 c1) (by go_simp)
  have k1 := cy hb (b := w.heap.size) (o := 1) (x := .slice A2 n2 c2) (by go_simp)
  have k2 := cy hb (b := w.heap.size) (o := 2) (x := .slice A3 n3 c3) (by go_simp)
  have x0 := cy hb (b := w.heap.size + 1) (o := 0) (x := .int .i64 x.k) (by go_simp)
  have x1 := cy hb (b := w.heap.size + 1) (o := 1) (x := .string x.n) (by go_simp)
  have x2 := cy hb (b := w.heap.size + 1) (o := 2) (x := .string x.t) (by go_simp)
  have x3 := cy hb (b := w.heap.size + 1) (o := 3) (x := .string x.d) (by go_simp)
  have p1 := cy hb (b := w.heap.size + 1 + 1) (o := 1) (x := .slice none 0 0) (by go_simp)
  have p2 := cy hb (b := w.heap.size + 1 + 1) (o := 2) (x := .slice none 0 0) (by go_simp)
  have pf : ∀ o, w1.frozen? ⟨w.heap.size + 1 + 1, o, none⟩ = false := fun o => by
    rw [hb.frozen (p := ⟨w.heap.size + 1 + 1, o, none⟩) (by simp)]
    go_simp
  have HB1 : Hid (Below w.heap.size w w1) := Below.trans (by go_grown) (hb.mono (by simp; omega))
  clear hb
  have hl0 : w.heap.size < w1.heap.size := by omega
  have hl1 : w.heap.size + 1 < w1.heap.size := by omega
  go_wp2_with fail
  refine (impl_folderOf _ (HR1.out.below HB1.out) HN1.out HUP.out (by omega) HFK.out (Nat.le_trans HTL.out (by omega))).mono ?_
  rintro e w2 ⟨rfl, hF, hb⟩
  have HF : Hid (FoldL w2 w1.heap.size w1.heap.size n1 d.live) := hF
  have s2 := hb.size
  replace k0 := cyB hb (by omega) k0
  replace k1 := cyB hb (by omega) k1
  replace k2 := cyB hb (by omega) k2
  replace x0 := cyB hb (by omega) x0
  replace x1 := cyB hb (by omega) x1
  replace x2 := cyB hb (by omega) x2
  replace x3 := cyB hb (by omega) x3
  replace p0 := cyB hb (by omega) p0
  replace p1 := cyB hb (by omega) p1
  replace p2 := cyB hb (by omega) p2
  replace pf : ∀ o, w2.frozen? ⟨w.heap.size + 1 + 1, o, none⟩ = false := fun o => by
    rw [hb.frozen (p := ⟨w.heap.size + 1 + 1, o, none⟩) (by show w.heap.size + 1 + 1 < _; omega)]
    exact pf o
  have HB2 : Hid (Below w.heap.size w w2) := bchain HB1.out hb
  have hm0 : w.heap.size < w2.heap.size := by omega
  have hm1 : w.heap.size + 1 < w2.heap.size := by omega
  have hm2 : w.heap.size + 1 + 1 < w2.heap.size := by omega
  clear hF hb hl0 hl1
  go_wp2_with fail
  refine (impl_do x _ HF.out (by omega) HX.out (by omega) (Nat.le_trans HTL.out (by omega))).mono ?_
  rintro e w3 ⟨rfl, hF, hb⟩
  have s3 := hb.size
  replace k0 := cyB hb (by omega) k0
  replace k1 := cyB hb (by omega) k1
  replace k2 := cyB hb (by omega) k2
  replace x0 := cyB hb (by omega) x0
  replace x1 := cyB hb (by omega) x1
  replace x2 := cyB hb (by omega) x2
  replace x3 := cyB hb (by omega) x3
  replace p0 := cyB hb (by omega) p0
  replace p1 := cyB hb (by omega) p1
  replace p2 := cyB hb (by omega) p2
  replace pf : ∀ o, w3.frozen? ⟨w.heap.size + 1 + 1, o, none⟩ = false := fun o => by
    rw [hb.frozen (p := ⟨w.heap.size + 1 + 1, o, none⟩) (by show w.heap.size + 1 + 1 < _; omega)]
    exact pf o
  have HB3 : Hid (Below w.heap.size w w3) := Below.trans HB2.out (hb.mono (by omega))
  have hk0 : w.heap.size < w3.heap.size := by omega
  have hk1 : w.heap.size + 1 < w3.heap.size := by omega
  have hk2 : w.heap.size + 1 + 1 < w3.heap.size := by omega
  rw [doG_of HC.out] at hF
  have HF3 : Hid (FoldL w3 w1.heap.size w1.heap.size (n1 + 1) (doL x d.live)) := hF
  clear hF hb hm0 hm1 hm2
  rw [HC.out]
  have h201 : ¬ (200 : Int) ≤ (n3 : Int) := by omega
  go_wp2_with fail
  refine (impl_copied _ (HR.out.below HB3.out) HL.out).mono ?_
  rintro e w4 ⟨vv, rfl, ⟨v1, v2, v3, rfl, o1, o2, o3, oa⟩, hb⟩
  replace x0 := cyB hb (by omega) x0
  replace x1 := cyB hb (by omega) x1
  replace x2 := cyB hb (by omega) x2
  replace x3 := cyB hb (by omega) x3
  replace p0 := cyB hb (by omega) p0
  replace p1 := cyB hb (by omega) p1
  replace p2 := cyB hb (by omega) p2
  replace pf : ∀ o, w4.frozen? ⟨w.heap.size + 1 + 1, o, none⟩ = false := fun o => by
    rw [hb.frozen (p := ⟨w.heap.size + 1 + 1, o, none⟩) (by show w.heap.size + 1 + 1 < _; omega)]
    exact pf o
  have s4 := hb.size
  have m4 : w.heap.size + 1 + 1 < w4.heap.size := by omega
  have BB : Hid (Below w.heap.size w w4) := bchain HB3.out hb
  have HF4 : Hid (FoldL w4 (w.heap.size + 3) w1.heap.size (n1 + 1) (doL x d.live)) := (HF3.out.below hb).mono (by omega)
  obtain ⟨D1, b1, rfl, y1, y2⟩ := own_shape o1
  obtain ⟨D2, b2, rfl, y3, y4⟩ := own_shape o2
  obtain ⟨D3, b3, rfl, y5, y6⟩ := own_shape o3
  have HO2 : Hid (w4.ownsRow (w.heap.size + 3) 75 2 (.slice D2 d.safe.length b2) d.safe.length (flat fiL d.safe)) := own_mono o2 (by omega)
  have HO3 : Hid (w4.ownsRow (w.heap.size + 3) 36 4 (.slice D3 d.ops.length b3) d.ops.length (flat dpL d.ops)) := own_mono o3 (by omega)
  clear hb o1 o2 o3 oa y1 y2 y3 y4 y5 y6 k0 k1 k2
  have htl : totL (doL x d.live) ≤ 1099511627776 := by
    have h1 := totL_do x d.live
    have h2 := HX.out.2.2
    have h3 := HTL.out
    omega
  have hmo : d.ops.length ≤ 1099511627776 := by rw [HN3.out]; omega
  go_upto_region 9 with fail
  go_cut [8] (fun v8 wx => v8 = .pointer (some ⟨w4.heap.size, 0, none⟩) ∧ DoE (w.heap.size + 3) w4.heap.size (doL x d.live) d.safe (d.ops ++ [x]) (.slice D2 d.safe.length b2) w4 wx)
  case first =>
    have mx : w.heap.size + 1 < w4.heap.size := by omega
    obtain ⟨w5, HW5⟩ : ∃ w5, Hid ((w4.alloc (.cells #[.slice D1 d.live.length b1, .slice D2 d.safe.length b2, .slice D3 d.ops.length b3] 27)) = w5) := ⟨_, rfl⟩
    rw [HW5.out]
    have S0 : Hid (DoS (w.heap.size + 3) w4.heap.size w1.heap.size (n1 + 1) (doL x d.live) (.slice D2 d.safe.length b2) d.safe w4 w5) := by
      rw [← HW5.out]
      exact ⟨HF4.out.below (by go_grown), HO2.out.alloc _, ⟨.slice D1 d.live.length b1, by go_simp⟩, by go_simp, ⟨.slice D3 d.ops.length b3, by go_simp⟩, fun o => by go_simp, ⟨_, _, blk_at rfl⟩, (Below.refl _ _).alloc (by omega) _⟩
    have R0 : Hid (w5.drew.ownsRow (w.heap.size + 3) 36 4 (.slice D3 d.ops.length b3) d.ops.length (flat dpL d.ops)) := by rw [← HW5.out]; exact (HO3.out.alloc _).drew
    have n0 : w5.drew.cell? ⟨w4.heap.size, 2, none⟩ = some (.slice D3 d.ops.length b3) := by rw [← HW5.out]; go_simp
    have e0 : w5.cell? ⟨w.heap.size + 1, 0, none⟩ = some (.int .i64 x.k) := by rw [← HW5.out]; go_simp
    have e1 : w5.cell? ⟨w.heap.size + 1, 1, none⟩ = some (.string x.n) := by rw [← HW5.out]; go_simp
    have e2 : w5.cell? ⟨w.heap.size + 1, 2, none⟩ = some (.string x.t) := by rw [← HW5.out]; go_simp
    have e3 : w5.cell? ⟨w.heap.size + 1, 3, none⟩ = some (.string x.d) := by rw [← HW5.out]; go_simp
    have HZ5 : Hid (w5.heap.size = w4.heap.size + 1) := by rw [← HW5.out]; show _ = _; simp
    clear x0 x1 x2 x3 p0 p1 p2 pf
    have lx : w.heap.size + 1 < w5.heap.size := by have := HZ5.out; omega
    have lb : w.heap.size + 3 ≤ w5.heap.size := by have := HZ5.out; omega
    have ln : w4.heap.size < w5.heap.size := by have := HZ5.out; omega
    have lg : w.heap.size + 3 ≤ w4.heap.size := by omega
    have K0 : Below (w.heap.size + 3) w5 w5.drew := (Below.refl _ _).drew
    have S00 : Hid (DoS (w.heap.size + 3) w4.heap.size w1.heap.size (n1 + 1) (doL x d.live) (.slice D2 d.safe.length b2) d.safe w4 w5.drew) := S0.out.below lb (Below.refl _ _).drew
    refine wp_region_held_drew (S := (fun w' => (∀ bq oq, bq < w.heap.size + 3 → w'.cell? ⟨bq, oq, none⟩ = w5.cell? ⟨bq, oq, none⟩) ∧ w.heap.size + 3 ≤ w'.heap.size ∧ Below (w.heap.size + 3) w5 w')) (by kernel_rfl) (sc_of lb (by go_grown)) (fun hHeld => ?_)
    refine wpAnyH_take (i := 0) (v := ?_) rfl (by kernel_rfl) (by kernel_rfl) (by kernel_rfl) (fun _ _ _ h => h) (Or.inl ⟨by rfl, ?_⟩) (by assumption) ?_
    rotate_left
    · (intro wq hSw; (try dsimp only at hSw); go_simp <;> with_reducible rfl)
    try simp only [Act.put, List.getElem_toArray, List.getElem_cons_zero, List.getElem_cons_succ, List.setIfInBounds_toArray, List.set_cons_zero, List.set_cons_succ]
    refine wpAnyH_take (i := 2) (v := ?_) rfl (by kernel_rfl) (by kernel_rfl) (by kernel_rfl) (fun _ _ _ h => h) (Or.inl ⟨by rfl, ?_⟩) (by assumption) ?_
    rotate_left
    · (intro wq hSw; (try dsimp only at hSw); go_simp <;> with_reducible rfl)
    try simp only [Act.put, List.getElem_toArray, List.getElem_cons_zero, List.getElem_cons_succ, List.setIfInBounds_toArray, List.set_cons_zero, List.set_cons_succ]
    refine wpAnyH_take (i := 4) (v := ?_) rfl (by kernel_rfl) (by kernel_rfl) (by kernel_rfl) (fun _ _ _ h => h) (Or.inl ⟨by rfl, ?_⟩) (by assumption) ?_
    rotate_left
    · (intro wq hSw; (try dsimp only at hSw); go_simp <;> with_reducible rfl)
    try simp only [Act.put, List.getElem_toArray, List.getElem_cons_zero, List.getElem_cons_succ, List.setIfInBounds_toArray, List.set_cons_zero, List.set_cons_succ]
    refine wpAnyH_ready (rs := [1, 3, 5]) (by kernel_rfl) (by simp) (AllReadyH.cons rfl (fun Kq hKq => ?_) (AllReadyH.cons rfl (fun Kq hKq => ?_) (AllReadyH.cons rfl (fun Kq hKq => ?_) (AllReadyH.nil))))
    · go_simp
      refine (impl_inOrder _ S00.out.fold htl (by omega)).mono ?_
      rintro e q1 ⟨vl1, rfl, hl1, hb⟩
      obtain ⟨E1, f1, rfl, y1, y2⟩ := own_shape hl1
      clear y1 y2
      have NE1 : Hid ((Value.slice E1 (doL x d.live).length f1).ownBlock = none ∨ (Value.slice E1 (doL x d.live).length f1).ownBlock ≠ (Value.slice D2 d.safe.length b2).ownBlock) := own_ne2 S00.out.o2 hl1
      have L1 : Hid (q1.ownsRow (w.heap.size + 3) 75 2 (Value.slice E1 (doL x d.live).length f1) (doL x d.live).length (flat fiL (doL x d.live))) := own_mono hl1 lb
      have S1 : Hid (DoS (w.heap.size + 3) w4.heap.size w1.heap.size (n1 + 1) (doL x d.live) (.slice D2 d.safe.length b2) d.safe w4 q1) := S00.out.below lb hb
      have lb1 : w.heap.size + 3 ≤ q1.heap.size := Nat.le_trans lb hb.size
      have R1 : Hid (q1.ownsRow (w.heap.size + 3) 36 4 (.slice D3 d.ops.length b3) d.ops.length (flat dpL d.ops)) := own_below R0.out hb
      have K1 : Below (w.heap.size + 3) w5 q1 := K0.trans (hb.mono lb)
      have nn1 : q1.cell? ⟨w4.heap.size, 2, none⟩ = some (.slice D3 d.ops.length b3) := cy hb n0
      clear hb hl1
      refine hKq.out _ _ ?_ (fun hHeld => ?_)
      · exact sc_of lb K1
      clear hKq Kq
      try simp only [Act.put, List.getElem_toArray, List.getElem_cons_zero, List.getElem_cons_succ, List.setIfInBounds_toArray, List.set_cons_zero, List.set_cons_succ]
      refine wpAnyH_ready (rs := [3, 5]) (by kernel_rfl) (by simp) (AllReadyH.cons rfl (fun Kq hKq => ?_) (AllReadyH.cons rfl (fun Kq hKq => ?_) (AllReadyH.nil)))
      · go_simp
        refine hKq.out _ _ ?_ (fun hHeld => ?_)
        · exact sc_of lb K1
        clear hKq Kq
        try simp only [Act.put, List.getElem_toArray, List.getElem_cons_zero, List.getElem_cons_succ, List.setIfInBounds_toArray, List.set_cons_zero, List.set_cons_succ]
        refine wpAnyH_take (i := 7) (v := ?_) rfl (by kernel_rfl) (by kernel_rfl) (by kernel_rfl) (fun _ _ _ h => h) (Or.inl ⟨by rfl, ?_⟩) (by assumption) ?_
        rotate_left
        · (intro wq hSw; (try dsimp only at hSw); go_simp <;> with_reducible rfl)
        try simp only [Act.put, List.getElem_toArray, List.getElem_cons_zero, List.getElem_cons_succ, List.setIfInBounds_toArray, List.set_cons_zero, List.set_cons_succ]
        refine wpAnyH_ready (rs := [5]) (by kernel_rfl) (by simp) (AllReadyH.cons rfl (fun Kq hKq => ?_) (AllReadyH.nil))
        go_simp
        obtain ⟨q2, HQ2⟩ : ∃ q, Hid ((q1.alloc (.cells #[.int .i64 x.k, .string x.n, .string x.t, .string x.d] 36)) = q) := ⟨_, rfl⟩
        rw [HQ2.out]
        have hb : Below q1.heap.size q1 q2 := by rw [← HQ2.out]; exact (Below.refl _ _).alloc (Nat.le_refl _) _
        have C2 : Hid (DpCell q2 q1.heap.size x) := by rw [← HQ2.out]; exact DpCell.at (W := q1)
        have L2 : Hid (q2.ownsRow (w.heap.size + 3) 75 2 (Value.slice E1 (doL x d.live).length f1) (doL x d.live).length (flat fiL (doL x d.live))) := own_below L1.out hb
        have S2 : Hid (DoS (w.heap.size + 3) w4.heap.size w1.heap.size (n1 + 1) (doL x d.live) (.slice D2 d.safe.length b2) d.safe w4 q2) := S1.out.below lb1 hb
        have lb2 : w.heap.size + 3 ≤ q2.heap.size := Nat.le_trans lb1 hb.size
        have R2 : Hid (q2.ownsRow (w.heap.size + 3) 36 4 (.slice D3 d.ops.length b3) d.ops.length (flat dpL d.ops)) := own_below R1.out hb
        have K2 : Below (w.heap.size + 3) w5 q2 := K1.trans (hb.mono lb1)
        have nn2 : q2.cell? ⟨w4.heap.size, 2, none⟩ = some (.slice D3 d.ops.length b3) := cy hb nn1
        clear hb
        refine hKq.out _ _ ?_ (fun hHeld => ?_)
        · exact sc_of lb K2
        clear hKq Kq
        try simp only [Act.put, List.getElem_toArray, List.getElem_cons_zero, List.getElem_cons_succ, List.setIfInBounds_toArray, List.set_cons_zero, List.set_cons_succ]
        refine wpAnyH_ready (rs := [6]) (by kernel_rfl) (by simp) (AllReadyH.cons rfl (fun Kq hKq => ?_) (AllReadyH.nil))
        refine step_app_dp (by rfl) _ _ (by rfl) (w.heap.size + 3) (.slice D3 d.ops.length b3) d.ops.length (flat dpL d.ops) (by rfl) R2.out x q1.heap.size (by rfl) C2.out hmo lb2 ?_
        intro vo3 q3 ho3 hg
        obtain ⟨E3, f3, rfl, y1, y2⟩ := own_shape ho3
        clear y1 y2
        have S3 : Hid (DoS (w.heap.size + 3) w4.heap.size w1.heap.size (n1 + 1) (doL x d.live) (.slice D2 d.safe.length b2) d.safe w4 q3) := S2.out.grown lb2 R2.out hg
        have lb3 : w.heap.size + 3 ≤ q3.heap.size := Nat.le_trans lb2 hg.size
        have R3 : Hid (q3.ownsRow (w.heap.size + 3) 36 4 (Value.slice E3 (d.ops.length + 1) f3) (d.ops.length + 1) (flat dpL d.ops ++ dpL x)) := ho3
        have K3 : Below (w.heap.size + 3) w5 q3 := K2.trans (grown_bel R2.out hg lb2)
        have L3 : Hid (q3.ownsRow (w.heap.size + 3) 75 2 (Value.slice E1 (doL x d.live).length f1) (doL x d.live).length (flat fiL (doL x d.live))) := L2.out.kept hg (own_ne_tyG L2.out R2.out (by decide))
        clear hg ho3
        refine hKq.out _ _ ?_ (fun hHeld => ?_)
        · exact sc_of lb K3
        clear hKq Kq
        try simp only [Act.put, List.getElem_toArray, List.getElem_cons_zero, List.getElem_cons_succ, List.setIfInBounds_toArray, List.set_cons_zero, List.set_cons_succ]
        refine wpAnyH_ready (rs := [8]) (by kernel_rfl) (by simp) (AllReadyH.cons rfl (fun Kq hKq => ?_) (AllReadyH.nil))
        obtain ⟨g0, hg0⟩ := S3.out.c0
        obtain ⟨g2, hg2⟩ := S3.out.c2
        have gf := S3.out.nf
        have gl : w4.heap.size < q3.heap.size := World.block_lt_of_cell? q3 ⟨w4.heap.size, 0, none⟩ hg0
        have EE : Hid (DoE (w.heap.size + 3) w4.heap.size (doL x d.live) d.safe (d.ops ++ [x]) (.slice D2 d.safe.length b2) w4 ((q3.setCell ⟨w4.heap.size, 0, none⟩ (Value.slice E1 (doL x d.live).length f1)).setCell ⟨w4.heap.size, 2, none⟩ (Value.slice E3 (d.ops.length + 1) f3))) := DoE.of S3.out lg L3.out (by rw [flat_snoc, List.length_append]; exact R3.out) NE1.out
        go_simp
        refine hKq.out _ _ ?_ (fun hHeld => ?_)
        · exact sc_of lb (K3.setCell (by show w.heap.size + 3 ≤ w4.heap.size; omega) _)
        clear hKq Kq
        try simp only [Act.put, List.getElem_toArray, List.getElem_cons_zero, List.getElem_cons_succ, List.setIfInBounds_toArray, List.set_cons_zero, List.set_cons_succ]
        refine wpAnyH_take (i := 9) (v := ?_) rfl (by kernel_rfl) (by kernel_rfl) (by kernel_rfl) (fun _ _ _ h => h) (Or.inl ⟨by rfl, ?_⟩) (by assumption) ?_
        rotate_left
        · (intro wq hSw; (try dsimp only at hSw); go_simp <;> with_reducible rfl)
        try simp only [Act.put, List.getElem_toArray, List.getElem_cons_zero, List.getElem_cons_succ, List.setIfInBounds_toArray, List.set_cons_zero, List.set_cons_succ]
        refine wpAnyH_ready (rs := [10]) (by kernel_rfl) (by simp) (AllReadyH.cons rfl (fun Kq hKq => ?_) (AllReadyH.nil))
        go_simp
        refine hKq.out _ _ ?_ (fun hHeld => ?_)
        · exact sc_of lb ((K3.setCell (by show w.heap.size + 3 ≤ w4.heap.size; omega) _).setCell (by show w.heap.size + 3 ≤ w4.heap.size; omega) _)
        clear hKq Kq
        try simp only [Act.put, List.getElem_toArray, List.getElem_cons_zero, List.getElem_cons_succ, List.setIfInBounds_toArray, List.set_cons_zero, List.set_cons_succ]
        refine wpAnyH_done (by kernel_rfl) ?_ _
        clear hHeld
        go_wp2_with fail
        go_meet
        exact ⟨rfl, EE.out⟩
      · go_simp
        obtain ⟨q4, HQ4⟩ : ∃ q, Hid ((q1.alloc (.cells #[.int .i64 x.k, .string x.n, .string x.t, .string x.d] 36)) = q) := ⟨_, rfl⟩
        rw [HQ4.out]
        have hb : Below q1.heap.size q1 q4 := by rw [← HQ4.out]; exact (Below.refl _ _).alloc (Nat.le_refl _) _
        have C4 : Hid (DpCell q4 q1.heap.size x) := by rw [← HQ4.out]; exact DpCell.at (W := q1)
        have L4 : Hid (q4.ownsRow (w.heap.size + 3) 75 2 (Value.slice E1 (doL x d.live).length f1) (doL x d.live).length (flat fiL (doL x d.live))) := own_below L1.out hb
        have S4 : Hid (DoS (w.heap.size + 3) w4.heap.size w1.heap.size (n1 + 1) (doL x d.live) (.slice D2 d.safe.length b2) d.safe w4 q4) := S1.out.below lb1 hb
        have lb4 : w.heap.size + 3 ≤ q4.heap.size := Nat.le_trans lb1 hb.size
        have R4 : Hid (q4.ownsRow (w.heap.size + 3) 36 4 (.slice D3 d.ops.length b3) d.ops.length (flat dpL d.ops)) := own_below R1.out hb
        have K4 : Below (w.heap.size + 3) w5 q4 := K1.trans (hb.mono lb1)
        have nn4 : q4.cell? ⟨w4.heap.size, 2, none⟩ = some (.slice D3 d.ops.length b3) := cy hb nn1
        clear hb
        refine hKq.out _ _ ?_ (fun hHeld => ?_)
        · exact sc_of lb K4
        clear hKq Kq
        try simp only [Act.put, List.getElem_toArray, List.getElem_cons_zero, List.getElem_cons_succ, List.setIfInBounds_toArray, List.set_cons_zero, List.set_cons_succ]
        refine wpAnyH_ready (rs := [3]) (by kernel_rfl) (by simp) (AllReadyH.cons rfl (fun Kq hKq => ?_) (AllReadyH.nil))
        go_simp
        refine hKq.out _ _ ?_ (fun hHeld => ?_)
        · exact sc_of lb K4
        clear hKq Kq
        try simp only [Act.put, List.getElem_toArray, List.getElem_cons_zero, List.getElem_cons_succ, List.setIfInBounds_toArray, List.set_cons_zero, List.set_cons_succ]
        refine wpAnyH_take (i := 7) (v := ?_) rfl (by kernel_rfl) (by kernel_rfl) (by kernel_rfl) (fun _ _ _ h => h) (Or.inl ⟨by rfl, ?_⟩) (by assumption) ?_
        rotate_left
        · (intro wq hSw; (try dsimp only at hSw); go_simp <;> with_reducible rfl)
        try simp only [Act.put, List.getElem_toArray, List.getElem_cons_zero, List.getElem_cons_succ, List.setIfInBounds_toArray, List.set_cons_zero, List.set_cons_succ]
        refine wpAnyH_ready (rs := [6]) (by kernel_rfl) (by simp) (AllReadyH.cons rfl (fun Kq hKq => ?_) (AllReadyH.nil))
        refine step_app_dp (by rfl) _ _ (by rfl) (w.heap.size + 3) (.slice D3 d.ops.length b3) d.ops.length (flat dpL d.ops) (by rfl) R4.out x q1.heap.size (by rfl) C4.out hmo lb4 ?_
        intro vo5 q5 ho5 hg
        obtain ⟨E5, f5, rfl, y1, y2⟩ := own_shape ho5
        clear y1 y2
        have S5 : Hid (DoS (w.heap.size + 3) w4.heap.size w1.heap.size (n1 + 1) (doL x d.live) (.slice D2 d.safe.length b2) d.safe w4 q5) := S4.out.grown lb4 R4.out hg
        have lb5 : w.heap.size + 3 ≤ q5.heap.size := Nat.le_trans lb4 hg.size
        have R5 : Hid (q5.ownsRow (w.heap.size + 3) 36 4 (Value.slice E5 (d.ops.length + 1) f5) (d.ops.length + 1) (flat dpL d.ops ++ dpL x)) := ho5
        have K5 : Below (w.heap.size + 3) w5 q5 := K4.trans (grown_bel R4.out hg lb4)
        have L5 : Hid (q5.ownsRow (w.heap.size + 3) 75 2 (Value.slice E1 (doL x d.live).length f1) (doL x d.live).length (flat fiL (doL x d.live))) := L4.out.kept hg (own_ne_tyG L4.out R4.out (by decide))
        clear hg ho5
        refine hKq.out _ _ ?_ (fun hHeld => ?_)
        · exact sc_of lb K5
        clear hKq Kq
        try simp only [Act.put, List.getElem_toArray, List.getElem_cons_zero, List.getElem_cons_succ, List.setIfInBounds_toArray, List.set_cons_zero, List.set_cons_succ]
        refine wpAnyH_ready (rs := [8]) (by kernel_rfl) (by simp) (AllReadyH.cons rfl (fun Kq hKq => ?_) (AllReadyH.nil))
        obtain ⟨g0, hg0⟩ := S5.out.c0
        obtain ⟨g2, hg2⟩ := S5.out.c2
        have gf := S5.out.nf
        have gl : w4.heap.size < q5.heap.size := World.block_lt_of_cell? q5 ⟨w4.heap.size, 0, none⟩ hg0
        have EE : Hid (DoE (w.heap.size + 3) w4.heap.size (doL x d.live) d.safe (d.ops ++ [x]) (.slice D2 d.safe.length b2) w4 ((q5.setCell ⟨w4.heap.size, 0, none⟩ (Value.slice E1 (doL x d.live).length f1)).setCell ⟨w4.heap.size, 2, none⟩ (Value.slice E5 (d.ops.length + 1) f5))) := DoE.of S5.out lg L5.out (by rw [flat_snoc, List.length_append]; exact R5.out) NE1.out
        go_simp
        refine hKq.out _ _ ?_ (fun hHeld => ?_)
        · exact sc_of lb (K5.setCell (by show w.heap.size + 3 ≤ w4.heap.size; omega) _)
        clear hKq Kq
        try simp only [Act.put, List.getElem_toArray, List.getElem_cons_zero, List.getElem_cons_succ, List.setIfInBounds_toArray, List.set_cons_zero, List.set_cons_succ]
        refine wpAnyH_take (i := 9) (v := ?_) rfl (by kernel_rfl) (by kernel_rfl) (by kernel_rfl) (fun _ _ _ h => h) (Or.inl ⟨by rfl, ?_⟩) (by assumption) ?_
        rotate_left
        · (intro wq hSw; (try dsimp only at hSw); go_simp <;> with_reducible rfl)
        try simp only [Act.put, List.getElem_toArray, List.getElem_cons_zero, List.getElem_cons_succ, List.setIfInBounds_toArray, List.set_cons_zero, List.set_cons_succ]
        refine wpAnyH_ready (rs := [10]) (by kernel_rfl) (by simp) (AllReadyH.cons rfl (fun Kq hKq => ?_) (AllReadyH.nil))
        go_simp
        refine hKq.out _ _ ?_ (fun hHeld => ?_)
        · exact sc_of lb ((K5.setCell (by show w.heap.size + 3 ≤ w4.heap.size; omega) _).setCell (by show w.heap.size + 3 ≤ w4.heap.size; omega) _)
        clear hKq Kq
        try simp only [Act.put, List.getElem_toArray, List.getElem_cons_zero, List.getElem_cons_succ, List.setIfInBounds_toArray, List.set_cons_zero, List.set_cons_succ]
        refine wpAnyH_done (by kernel_rfl) ?_ _
        clear hHeld
        go_wp2_with fail
        go_meet
        exact ⟨rfl, EE.out⟩
    · go_simp
      refine hKq.out _ _ ?_ (fun hHeld => ?_)
      · exact sc_of lb K0
      clear hKq Kq
      try simp only [Act.put, List.getElem_toArray, List.getElem_cons_zero, List.getElem_cons_succ, List.setIfInBounds_toArray, List.set_cons_zero, List.set_cons_succ]
      refine wpAnyH_ready (rs := [1, 5]) (by kernel_rfl) (by simp) (AllReadyH.cons rfl (fun Kq hKq => ?_) (AllReadyH.cons rfl (fun Kq hKq => ?_) (AllReadyH.nil)))
      · go_simp
        refine (impl_inOrder _ S00.out.fold htl (by omega)).mono ?_
        rintro e q6 ⟨vl6, rfl, hl6, hb⟩
        obtain ⟨E6, f6, rfl, y1, y2⟩ := own_shape hl6
        clear y1 y2
        have NE6 : Hid ((Value.slice E6 (doL x d.live).length f6).ownBlock = none ∨ (Value.slice E6 (doL x d.live).length f6).ownBlock ≠ (Value.slice D2 d.safe.length b2).ownBlock) := own_ne2 S00.out.o2 hl6
        have L6 : Hid (q6.ownsRow (w.heap.size + 3) 75 2 (Value.slice E6 (doL x d.live).length f6) (doL x d.live).length (flat fiL (doL x d.live))) := own_mono hl6 lb
        have S6 : Hid (DoS (w.heap.size + 3) w4.heap.size w1.heap.size (n1 + 1) (doL x d.live) (.slice D2 d.safe.length b2) d.safe w4 q6) := S00.out.below lb hb
        have lb6 : w.heap.size + 3 ≤ q6.heap.size := Nat.le_trans lb hb.size
        have R6 : Hid (q6.ownsRow (w.heap.size + 3) 36 4 (.slice D3 d.ops.length b3) d.ops.length (flat dpL d.ops)) := own_below R0.out hb
        have K6 : Below (w.heap.size + 3) w5 q6 := K0.trans (hb.mono lb)
        have nn6 : q6.cell? ⟨w4.heap.size, 2, none⟩ = some (.slice D3 d.ops.length b3) := cy hb n0
        clear hb hl6
        refine hKq.out _ _ ?_ (fun hHeld => ?_)
        · exact sc_of lb K6
        clear hKq Kq
        try simp only [Act.put, List.getElem_toArray, List.getElem_cons_zero, List.getElem_cons_succ, List.setIfInBounds_toArray, List.set_cons_zero, List.set_cons_succ]
        refine wpAnyH_take (i := 7) (v := ?_) rfl (by kernel_rfl) (by kernel_rfl) (by kernel_rfl) (fun _ _ _ h => h) (Or.inl ⟨by rfl, ?_⟩) (by assumption) ?_
        rotate_left
        · (intro wq hSw; (try dsimp only at hSw); go_simp <;> with_reducible rfl)
        try simp only [Act.put, List.getElem_toArray, List.getElem_cons_zero, List.getElem_cons_succ, List.setIfInBounds_toArray, List.set_cons_zero, List.set_cons_succ]
        refine wpAnyH_ready (rs := [5]) (by kernel_rfl) (by simp) (AllReadyH.cons rfl (fun Kq hKq => ?_) (AllReadyH.nil))
        go_simp
        obtain ⟨q7, HQ7⟩ : ∃ q, Hid ((q6.alloc (.cells #[.int .i64 x.k, .string x.n, .string x.t, .string x.d] 36)) = q) := ⟨_, rfl⟩
        rw [HQ7.out]
        have hb : Below q6.heap.size q6 q7 := by rw [← HQ7.out]; exact (Below.refl _ _).alloc (Nat.le_refl _) _
        have C7 : Hid (DpCell q7 q6.heap.size x) := by rw [← HQ7.out]; exact DpCell.at (W := q6)
        have L7 : Hid (q7.ownsRow (w.heap.size + 3) 75 2 (Value.slice E6 (doL x d.live).length f6) (doL x d.live).length (flat fiL (doL x d.live))) := own_below L6.out hb
        have S7 : Hid (DoS (w.heap.size + 3) w4.heap.size w1.heap.size (n1 + 1) (doL x d.live) (.slice D2 d.safe.length b2) d.safe w4 q7) := S6.out.below lb6 hb
        have lb7 : w.heap.size + 3 ≤ q7.heap.size := Nat.le_trans lb6 hb.size
        have R7 : Hid (q7.ownsRow (w.heap.size + 3) 36 4 (.slice D3 d.ops.length b3) d.ops.length (flat dpL d.ops)) := own_below R6.out hb
        have K7 : Below (w.heap.size + 3) w5 q7 := K6.trans (hb.mono lb6)
        have nn7 : q7.cell? ⟨w4.heap.size, 2, none⟩ = some (.slice D3 d.ops.length b3) := cy hb nn6
        clear hb
        refine hKq.out _ _ ?_ (fun hHeld => ?_)
        · exact sc_of lb K7
        clear hKq Kq
        try simp only [Act.put, List.getElem_toArray, List.getElem_cons_zero, List.getElem_cons_succ, List.setIfInBounds_toArray, List.set_cons_zero, List.set_cons_succ]
        refine wpAnyH_ready (rs := [6]) (by kernel_rfl) (by simp) (AllReadyH.cons rfl (fun Kq hKq => ?_) (AllReadyH.nil))
        refine step_app_dp (by rfl) _ _ (by rfl) (w.heap.size + 3) (.slice D3 d.ops.length b3) d.ops.length (flat dpL d.ops) (by rfl) R7.out x q6.heap.size (by rfl) C7.out hmo lb7 ?_
        intro vo8 q8 ho8 hg
        obtain ⟨E8, f8, rfl, y1, y2⟩ := own_shape ho8
        clear y1 y2
        have S8 : Hid (DoS (w.heap.size + 3) w4.heap.size w1.heap.size (n1 + 1) (doL x d.live) (.slice D2 d.safe.length b2) d.safe w4 q8) := S7.out.grown lb7 R7.out hg
        have lb8 : w.heap.size + 3 ≤ q8.heap.size := Nat.le_trans lb7 hg.size
        have R8 : Hid (q8.ownsRow (w.heap.size + 3) 36 4 (Value.slice E8 (d.ops.length + 1) f8) (d.ops.length + 1) (flat dpL d.ops ++ dpL x)) := ho8
        have K8 : Below (w.heap.size + 3) w5 q8 := K7.trans (grown_bel R7.out hg lb7)
        have L8 : Hid (q8.ownsRow (w.heap.size + 3) 75 2 (Value.slice E6 (doL x d.live).length f6) (doL x d.live).length (flat fiL (doL x d.live))) := L7.out.kept hg (own_ne_tyG L7.out R7.out (by decide))
        clear hg ho8
        refine hKq.out _ _ ?_ (fun hHeld => ?_)
        · exact sc_of lb K8
        clear hKq Kq
        try simp only [Act.put, List.getElem_toArray, List.getElem_cons_zero, List.getElem_cons_succ, List.setIfInBounds_toArray, List.set_cons_zero, List.set_cons_succ]
        refine wpAnyH_ready (rs := [8]) (by kernel_rfl) (by simp) (AllReadyH.cons rfl (fun Kq hKq => ?_) (AllReadyH.nil))
        obtain ⟨g0, hg0⟩ := S8.out.c0
        obtain ⟨g2, hg2⟩ := S8.out.c2
        have gf := S8.out.nf
        have gl : w4.heap.size < q8.heap.size := World.block_lt_of_cell? q8 ⟨w4.heap.size, 0, none⟩ hg0
        have EE : Hid (DoE (w.heap.size + 3) w4.heap.size (doL x d.live) d.safe (d.ops ++ [x]) (.slice D2 d.safe.length b2) w4 ((q8.setCell ⟨w4.heap.size, 0, none⟩ (Value.slice E6 (doL x d.live).length f6)).setCell ⟨w4.heap.size, 2, none⟩ (Value.slice E8 (d.ops.length + 1) f8))) := DoE.of S8.out lg L8.out (by rw [flat_snoc, List.length_append]; exact R8.out) NE6.out
        go_simp
        refine hKq.out _ _ ?_ (fun hHeld => ?_)
        · exact sc_of lb (K8.setCell (by show w.heap.size + 3 ≤ w4.heap.size; omega) _)
        clear hKq Kq
        try simp only [Act.put, List.getElem_toArray, List.getElem_cons_zero, List.getElem_cons_succ, List.setIfInBounds_toArray, List.set_cons_zero, List.set_cons_succ]
        refine wpAnyH_take (i := 9) (v := ?_) rfl (by kernel_rfl) (by kernel_rfl) (by kernel_rfl) (fun _ _ _ h => h) (Or.inl ⟨by rfl, ?_⟩) (by assumption) ?_
        rotate_left
        · (intro wq hSw; (try dsimp only at hSw); go_simp <;> with_reducible rfl)
        try simp only [Act.put, List.getElem_toArray, List.getElem_cons_zero, List.getElem_cons_succ, List.setIfInBounds_toArray, List.set_cons_zero, List.set_cons_succ]
        refine wpAnyH_ready (rs := [10]) (by kernel_rfl) (by simp) (AllReadyH.cons rfl (fun Kq hKq => ?_) (AllReadyH.nil))
        go_simp
        refine hKq.out _ _ ?_ (fun hHeld => ?_)
        · exact sc_of lb ((K8.setCell (by show w.heap.size + 3 ≤ w4.heap.size; omega) _).setCell (by show w.heap.size + 3 ≤ w4.heap.size; omega) _)
        clear hKq Kq
        try simp only [Act.put, List.getElem_toArray, List.getElem_cons_zero, List.getElem_cons_succ, List.setIfInBounds_toArray, List.set_cons_zero, List.set_cons_succ]
        refine wpAnyH_done (by kernel_rfl) ?_ _
        clear hHeld
        go_wp2_with fail
        go_meet
        exact ⟨rfl, EE.out⟩
      · go_simp
        obtain ⟨q9, HQ9⟩ : ∃ q, Hid ((w5.alloc (.cells #[.int .i64 x.k, .string x.n, .string x.t, .string x.d] 36)).drew = q) := ⟨_, rfl⟩
        rw [HQ9.out]
        have hb : Below w5.drew.heap.size w5.drew q9 := by rw [← HQ9.out]; exact ⟨rfl, rfl, rfl, by simp, fun q hq => Below.heap_alloc w5 _ q hq⟩
        have C9 : Hid (DpCell q9 w5.drew.heap.size x) := by rw [← HQ9.out]; exact DpCell.at (W := w5)
        have S9 : Hid (DoS (w.heap.size + 3) w4.heap.size w1.heap.size (n1 + 1) (doL x d.live) (.slice D2 d.safe.length b2) d.safe w4 q9) := S00.out.below lb hb
        have lb9 : w.heap.size + 3 ≤ q9.heap.size := Nat.le_trans lb hb.size
        have R9 : Hid (q9.ownsRow (w.heap.size + 3) 36 4 (.slice D3 d.ops.length b3) d.ops.length (flat dpL d.ops)) := own_below R0.out hb
        have K9 : Below (w.heap.size + 3) w5 q9 := K0.trans (hb.mono lb)
        have nn9 : q9.cell? ⟨w4.heap.size, 2, none⟩ = some (.slice D3 d.ops.length b3) := cy hb n0
        clear hb
        refine hKq.out _ _ ?_ (fun hHeld => ?_)
        · exact sc_of lb K9
        clear hKq Kq
        try simp only [Act.put, List.getElem_toArray, List.getElem_cons_zero, List.getElem_cons_succ, List.setIfInBounds_toArray, List.set_cons_zero, List.set_cons_succ]
        refine wpAnyH_ready (rs := [1]) (by kernel_rfl) (by simp) (AllReadyH.cons rfl (fun Kq hKq => ?_) (AllReadyH.nil))
        go_simp
        refine (impl_inOrder _ S9.out.fold htl (by omega)).mono ?_
        rintro e q10 ⟨vl10, rfl, hl10, hb⟩
        obtain ⟨E10, f10, rfl, y1, y2⟩ := own_shape hl10
        clear y1 y2
        have NE10 : Hid ((Value.slice E10 (doL x d.live).length f10).ownBlock = none ∨ (Value.slice E10 (doL x d.live).length f10).ownBlock ≠ (Value.slice D2 d.safe.length b2).ownBlock) := own_ne2 S9.out.o2 hl10
        have L10 : Hid (q10.ownsRow (w.heap.size + 3) 75 2 (Value.slice E10 (doL x d.live).length f10) (doL x d.live).length (flat fiL (doL x d.live))) := own_mono hl10 lb9
        have C10 : Hid (DpCell q10 w5.drew.heap.size x) := C9.out.below hb
        have S10 : Hid (DoS (w.heap.size + 3) w4.heap.size w1.heap.size (n1 + 1) (doL x d.live) (.slice D2 d.safe.length b2) d.safe w4 q10) := S9.out.below lb9 hb
        have lb10 : w.heap.size + 3 ≤ q10.heap.size := Nat.le_trans lb9 hb.size
        have R10 : Hid (q10.ownsRow (w.heap.size + 3) 36 4 (.slice D3 d.ops.length b3) d.ops.length (flat dpL d.ops)) := own_below R9.out hb
        have K10 : Below (w.heap.size + 3) w5 q10 := K9.trans (hb.mono lb9)
        have nn10 : q10.cell? ⟨w4.heap.size, 2, none⟩ = some (.slice D3 d.ops.length b3) := cy hb nn9
        clear hb hl10
        refine hKq.out _ _ ?_ (fun hHeld => ?_)
        · exact sc_of lb K10
        clear hKq Kq
        try simp only [Act.put, List.getElem_toArray, List.getElem_cons_zero, List.getElem_cons_succ, List.setIfInBounds_toArray, List.set_cons_zero, List.set_cons_succ]
        refine wpAnyH_take (i := 7) (v := ?_) rfl (by kernel_rfl) (by kernel_rfl) (by kernel_rfl) (fun _ _ _ h => h) (Or.inl ⟨by rfl, ?_⟩) (by assumption) ?_
        rotate_left
        · (intro wq hSw; (try dsimp only at hSw); go_simp <;> with_reducible rfl)
        try simp only [Act.put, List.getElem_toArray, List.getElem_cons_zero, List.getElem_cons_succ, List.setIfInBounds_toArray, List.set_cons_zero, List.set_cons_succ]
        refine wpAnyH_ready (rs := [6]) (by kernel_rfl) (by simp) (AllReadyH.cons rfl (fun Kq hKq => ?_) (AllReadyH.nil))
        refine step_app_dp (by rfl) _ _ (by rfl) (w.heap.size + 3) (.slice D3 d.ops.length b3) d.ops.length (flat dpL d.ops) (by rfl) R10.out x w5.drew.heap.size (by rfl) C10.out hmo lb10 ?_
        intro vo11 q11 ho11 hg
        obtain ⟨E11, f11, rfl, y1, y2⟩ := own_shape ho11
        clear y1 y2
        have S11 : Hid (DoS (w.heap.size + 3) w4.heap.size w1.heap.size (n1 + 1) (doL x d.live) (.slice D2 d.safe.length b2) d.safe w4 q11) := S10.out.grown lb10 R10.out hg
        have lb11 : w.heap.size + 3 ≤ q11.heap.size := Nat.le_trans lb10 hg.size
        have R11 : Hid (q11.ownsRow (w.heap.size + 3) 36 4 (Value.slice E11 (d.ops.length + 1) f11) (d.ops.length + 1) (flat dpL d.ops ++ dpL x)) := ho11
        have K11 : Below (w.heap.size + 3) w5 q11 := K10.trans (grown_bel R10.out hg lb10)
        have L11 : Hid (q11.ownsRow (w.heap.size + 3) 75 2 (Value.slice E10 (doL x d.live).length f10) (doL x d.live).length (flat fiL (doL x d.live))) := L10.out.kept hg (own_ne_tyG L10.out R10.out (by decide))
        clear hg ho11
        refine hKq.out _ _ ?_ (fun hHeld => ?_)
        · exact sc_of lb K11
        clear hKq Kq
        try simp only [Act.put, List.getElem_toArray, List.getElem_cons_zero, List.getElem_cons_succ, List.setIfInBounds_toArray, List.set_cons_zero, List.set_cons_succ]
        refine wpAnyH_ready (rs := [8]) (by kernel_rfl) (by simp) (AllReadyH.cons rfl (fun Kq hKq => ?_) (AllReadyH.nil))
        obtain ⟨g0, hg0⟩ := S11.out.c0
        obtain ⟨g2, hg2⟩ := S11.out.c2
        have gf := S11.out.nf
        have gl : w4.heap.size < q11.heap.size := World.block_lt_of_cell? q11 ⟨w4.heap.size, 0, none⟩ hg0
        have EE : Hid (DoE (w.heap.size + 3) w4.heap.size (doL x d.live) d.safe (d.ops ++ [x]) (.slice D2 d.safe.length b2) w4 ((q11.setCell ⟨w4.heap.size, 0, none⟩ (Value.slice E10 (doL x d.live).length f10)).setCell ⟨w4.heap.size, 2, none⟩ (Value.slice E11 (d.ops.length + 1) f11))) := DoE.of S11.out lg L11.out (by rw [flat_snoc, List.length_append]; exact R11.out) NE10.out
        go_simp
        refine hKq.out _ _ ?_ (fun hHeld => ?_)
        · exact sc_of lb (K11.setCell (by show w.heap.size + 3 ≤ w4.heap.size; omega) _)
        clear hKq Kq
        try simp only [Act.put, List.getElem_toArray, List.getElem_cons_zero, List.getElem_cons_succ, List.setIfInBounds_toArray, List.set_cons_zero, List.set_cons_succ]
        refine wpAnyH_take (i := 9) (v := ?_) rfl (by kernel_rfl) (by kernel_rfl) (by kernel_rfl) (fun _ _ _ h => h) (Or.inl ⟨by rfl, ?_⟩) (by assumption) ?_
        rotate_left
        · (intro wq hSw; (try dsimp only at hSw); go_simp <;> with_reducible rfl)
        try simp only [Act.put, List.getElem_toArray, List.getElem_cons_zero, List.getElem_cons_succ, List.setIfInBounds_toArray, List.set_cons_zero, List.set_cons_succ]
        refine wpAnyH_ready (rs := [10]) (by kernel_rfl) (by simp) (AllReadyH.cons rfl (fun Kq hKq => ?_) (AllReadyH.nil))
        go_simp
        refine hKq.out _ _ ?_ (fun hHeld => ?_)
        · exact sc_of lb ((K11.setCell (by show w.heap.size + 3 ≤ w4.heap.size; omega) _).setCell (by show w.heap.size + 3 ≤ w4.heap.size; omega) _)
        clear hKq Kq
        try simp only [Act.put, List.getElem_toArray, List.getElem_cons_zero, List.getElem_cons_succ, List.setIfInBounds_toArray, List.set_cons_zero, List.set_cons_succ]
        refine wpAnyH_done (by kernel_rfl) ?_ _
        clear hHeld
        go_wp2_with fail
        go_meet
        exact ⟨rfl, EE.out⟩
    · go_simp
      obtain ⟨q12, HQ12⟩ : ∃ q, Hid ((w5.alloc (.cells #[.int .i64 x.k, .string x.n, .string x.t, .string x.d] 36)).drew = q) := ⟨_, rfl⟩
      rw [HQ12.out]
      have hb : Below w5.drew.heap.size w5.drew q12 := by rw [← HQ12.out]; exact ⟨rfl, rfl, rfl, by simp, fun q hq => Below.heap_alloc w5 _ q hq⟩
      have C12 : Hid (DpCell q12 w5.drew.heap.size x) := by rw [← HQ12.out]; exact DpCell.at (W := w5)
      have S12 : Hid (DoS (w.heap.size + 3) w4.heap.size w1.heap.size (n1 + 1) (doL x d.live) (.slice D2 d.safe.length b2) d.safe w4 q12) := S00.out.below lb hb
      have lb12 : w.heap.size + 3 ≤ q12.heap.size := Nat.le_trans lb hb.size
      have R12 : Hid (q12.ownsRow (w.heap.size + 3) 36 4 (.slice D3 d.ops.length b3) d.ops.length (flat dpL d.ops)) := own_below R0.out hb
      have K12 : Below (w.heap.size + 3) w5 q12 := K0.trans (hb.mono lb)
      have nn12 : q12.cell? ⟨w4.heap.size, 2, none⟩ = some (.slice D3 d.ops.length b3) := cy hb n0
      clear hb
      refine hKq.out _ _ ?_ (fun hHeld => ?_)
      · exact sc_of lb K12
      clear hKq Kq
      try simp only [Act.put, List.getElem_toArray, List.getElem_cons_zero, List.getElem_cons_succ, List.setIfInBounds_toArray, List.set_cons_zero, List.set_cons_succ]
      refine wpAnyH_ready (rs := [1, 3]) (by kernel_rfl) (by simp) (AllReadyH.cons rfl (fun Kq hKq => ?_) (AllReadyH.cons rfl (fun Kq hKq => ?_) (AllReadyH.nil)))
      · go_simp
        refine (impl_inOrder _ S12.out.fold htl (by omega)).mono ?_
        rintro e q13 ⟨vl13, rfl, hl13, hb⟩
        obtain ⟨E13, f13, rfl, y1, y2⟩ := own_shape hl13
        clear y1 y2
        have NE13 : Hid ((Value.slice E13 (doL x d.live).length f13).ownBlock = none ∨ (Value.slice E13 (doL x d.live).length f13).ownBlock ≠ (Value.slice D2 d.safe.length b2).ownBlock) := own_ne2 S12.out.o2 hl13
        have L13 : Hid (q13.ownsRow (w.heap.size + 3) 75 2 (Value.slice E13 (doL x d.live).length f13) (doL x d.live).length (flat fiL (doL x d.live))) := own_mono hl13 lb12
        have C13 : Hid (DpCell q13 w5.drew.heap.size x) := C12.out.below hb
        have S13 : Hid (DoS (w.heap.size + 3) w4.heap.size w1.heap.size (n1 + 1) (doL x d.live) (.slice D2 d.safe.length b2) d.safe w4 q13) := S12.out.below lb12 hb
        have lb13 : w.heap.size + 3 ≤ q13.heap.size := Nat.le_trans lb12 hb.size
        have R13 : Hid (q13.ownsRow (w.heap.size + 3) 36 4 (.slice D3 d.ops.length b3) d.ops.length (flat dpL d.ops)) := own_below R12.out hb
        have K13 : Below (w.heap.size + 3) w5 q13 := K12.trans (hb.mono lb12)
        have nn13 : q13.cell? ⟨w4.heap.size, 2, none⟩ = some (.slice D3 d.ops.length b3) := cy hb nn12
        clear hb hl13
        refine hKq.out _ _ ?_ (fun hHeld => ?_)
        · exact sc_of lb K13
        clear hKq Kq
        try simp only [Act.put, List.getElem_toArray, List.getElem_cons_zero, List.getElem_cons_succ, List.setIfInBounds_toArray, List.set_cons_zero, List.set_cons_succ]
        refine wpAnyH_ready (rs := [3]) (by kernel_rfl) (by simp) (AllReadyH.cons rfl (fun Kq hKq => ?_) (AllReadyH.nil))
        go_simp
        refine hKq.out _ _ ?_ (fun hHeld => ?_)
        · exact sc_of lb K13
        clear hKq Kq
        try simp only [Act.put, List.getElem_toArray, List.getElem_cons_zero, List.getElem_cons_succ, List.setIfInBounds_toArray, List.set_cons_zero, List.set_cons_succ]
        refine wpAnyH_take (i := 7) (v := ?_) rfl (by kernel_rfl) (by kernel_rfl) (by kernel_rfl) (fun _ _ _ h => h) (Or.inl ⟨by rfl, ?_⟩) (by assumption) ?_
        rotate_left
        · (intro wq hSw; (try dsimp only at hSw); go_simp <;> with_reducible rfl)
        try simp only [Act.put, List.getElem_toArray, List.getElem_cons_zero, List.getElem_cons_succ, List.setIfInBounds_toArray, List.set_cons_zero, List.set_cons_succ]
        refine wpAnyH_ready (rs := [6]) (by kernel_rfl) (by simp) (AllReadyH.cons rfl (fun Kq hKq => ?_) (AllReadyH.nil))
        refine step_app_dp (by rfl) _ _ (by rfl) (w.heap.size + 3) (.slice D3 d.ops.length b3) d.ops.length (flat dpL d.ops) (by rfl) R13.out x w5.drew.heap.size (by rfl) C13.out hmo lb13 ?_
        intro vo14 q14 ho14 hg
        obtain ⟨E14, f14, rfl, y1, y2⟩ := own_shape ho14
        clear y1 y2
        have S14 : Hid (DoS (w.heap.size + 3) w4.heap.size w1.heap.size (n1 + 1) (doL x d.live) (.slice D2 d.safe.length b2) d.safe w4 q14) := S13.out.grown lb13 R13.out hg
        have lb14 : w.heap.size + 3 ≤ q14.heap.size := Nat.le_trans lb13 hg.size
        have R14 : Hid (q14.ownsRow (w.heap.size + 3) 36 4 (Value.slice E14 (d.ops.length + 1) f14) (d.ops.length + 1) (flat dpL d.ops ++ dpL x)) := ho14
        have K14 : Below (w.heap.size + 3) w5 q14 := K13.trans (grown_bel R13.out hg lb13)
        have L14 : Hid (q14.ownsRow (w.heap.size + 3) 75 2 (Value.slice E13 (doL x d.live).length f13) (doL x d.live).length (flat fiL (doL x d.live))) := L13.out.kept hg (own_ne_tyG L13.out R13.out (by decide))
        clear hg ho14
        refine hKq.out _ _ ?_ (fun hHeld => ?_)
        · exact sc_of lb K14
        clear hKq Kq
        try simp only [Act.put, List.getElem_toArray, List.getElem_cons_zero, List.getElem_cons_succ, List.setIfInBounds_toArray, List.set_cons_zero, List.set_cons_succ]
        refine wpAnyH_ready (rs := [8]) (by kernel_rfl) (by simp) (AllReadyH.cons rfl (fun Kq hKq => ?_) (AllReadyH.nil))
        obtain ⟨g0, hg0⟩ := S14.out.c0
        obtain ⟨g2, hg2⟩ := S14.out.c2
        have gf := S14.out.nf
        have gl : w4.heap.size < q14.heap.size := World.block_lt_of_cell? q14 ⟨w4.heap.size, 0, none⟩ hg0
        have EE : Hid (DoE (w.heap.size + 3) w4.heap.size (doL x d.live) d.safe (d.ops ++ [x]) (.slice D2 d.safe.length b2) w4 ((q14.setCell ⟨w4.heap.size, 0, none⟩ (Value.slice E13 (doL x d.live).length f13)).setCell ⟨w4.heap.size, 2, none⟩ (Value.slice E14 (d.ops.length + 1) f14))) := DoE.of S14.out lg L14.out (by rw [flat_snoc, List.length_append]; exact R14.out) NE13.out
        go_simp
        refine hKq.out _ _ ?_ (fun hHeld => ?_)
        · exact sc_of lb (K14.setCell (by show w.heap.size + 3 ≤ w4.heap.size; omega) _)
        clear hKq Kq
        try simp only [Act.put, List.getElem_toArray, List.getElem_cons_zero, List.getElem_cons_succ, List.setIfInBounds_toArray, List.set_cons_zero, List.set_cons_succ]
        refine wpAnyH_take (i := 9) (v := ?_) rfl (by kernel_rfl) (by kernel_rfl) (by kernel_rfl) (fun _ _ _ h => h) (Or.inl ⟨by rfl, ?_⟩) (by assumption) ?_
        rotate_left
        · (intro wq hSw; (try dsimp only at hSw); go_simp <;> with_reducible rfl)
        try simp only [Act.put, List.getElem_toArray, List.getElem_cons_zero, List.getElem_cons_succ, List.setIfInBounds_toArray, List.set_cons_zero, List.set_cons_succ]
        refine wpAnyH_ready (rs := [10]) (by kernel_rfl) (by simp) (AllReadyH.cons rfl (fun Kq hKq => ?_) (AllReadyH.nil))
        go_simp
        refine hKq.out _ _ ?_ (fun hHeld => ?_)
        · exact sc_of lb ((K14.setCell (by show w.heap.size + 3 ≤ w4.heap.size; omega) _).setCell (by show w.heap.size + 3 ≤ w4.heap.size; omega) _)
        clear hKq Kq
        try simp only [Act.put, List.getElem_toArray, List.getElem_cons_zero, List.getElem_cons_succ, List.setIfInBounds_toArray, List.set_cons_zero, List.set_cons_succ]
        refine wpAnyH_done (by kernel_rfl) ?_ _
        clear hHeld
        go_wp2_with fail
        go_meet
        exact ⟨rfl, EE.out⟩
      · go_simp
        refine hKq.out _ _ ?_ (fun hHeld => ?_)
        · exact sc_of lb K12
        clear hKq Kq
        try simp only [Act.put, List.getElem_toArray, List.getElem_cons_zero, List.getElem_cons_succ, List.setIfInBounds_toArray, List.set_cons_zero, List.set_cons_succ]
        refine wpAnyH_ready (rs := [1]) (by kernel_rfl) (by simp) (AllReadyH.cons rfl (fun Kq hKq => ?_) (AllReadyH.nil))
        go_simp
        refine (impl_inOrder _ S12.out.fold htl (by omega)).mono ?_
        rintro e q15 ⟨vl15, rfl, hl15, hb⟩
        obtain ⟨E15, f15, rfl, y1, y2⟩ := own_shape hl15
        clear y1 y2
        have NE15 : Hid ((Value.slice E15 (doL x d.live).length f15).ownBlock = none ∨ (Value.slice E15 (doL x d.live).length f15).ownBlock ≠ (Value.slice D2 d.safe.length b2).ownBlock) := own_ne2 S12.out.o2 hl15
        have L15 : Hid (q15.ownsRow (w.heap.size + 3) 75 2 (Value.slice E15 (doL x d.live).length f15) (doL x d.live).length (flat fiL (doL x d.live))) := own_mono hl15 lb12
        have C15 : Hid (DpCell q15 w5.drew.heap.size x) := C12.out.below hb
        have S15 : Hid (DoS (w.heap.size + 3) w4.heap.size w1.heap.size (n1 + 1) (doL x d.live) (.slice D2 d.safe.length b2) d.safe w4 q15) := S12.out.below lb12 hb
        have lb15 : w.heap.size + 3 ≤ q15.heap.size := Nat.le_trans lb12 hb.size
        have R15 : Hid (q15.ownsRow (w.heap.size + 3) 36 4 (.slice D3 d.ops.length b3) d.ops.length (flat dpL d.ops)) := own_below R12.out hb
        have K15 : Below (w.heap.size + 3) w5 q15 := K12.trans (hb.mono lb12)
        have nn15 : q15.cell? ⟨w4.heap.size, 2, none⟩ = some (.slice D3 d.ops.length b3) := cy hb nn12
        clear hb hl15
        refine hKq.out _ _ ?_ (fun hHeld => ?_)
        · exact sc_of lb K15
        clear hKq Kq
        try simp only [Act.put, List.getElem_toArray, List.getElem_cons_zero, List.getElem_cons_succ, List.setIfInBounds_toArray, List.set_cons_zero, List.set_cons_succ]
        refine wpAnyH_take (i := 7) (v := ?_) rfl (by kernel_rfl) (by kernel_rfl) (by kernel_rfl) (fun _ _ _ h => h) (Or.inl ⟨by rfl, ?_⟩) (by assumption) ?_
        rotate_left
        · (intro wq hSw; (try dsimp only at hSw); go_simp <;> with_reducible rfl)
        try simp only [Act.put, List.getElem_toArray, List.getElem_cons_zero, List.getElem_cons_succ, List.setIfInBounds_toArray, List.set_cons_zero, List.set_cons_succ]
        refine wpAnyH_ready (rs := [6]) (by kernel_rfl) (by simp) (AllReadyH.cons rfl (fun Kq hKq => ?_) (AllReadyH.nil))
        refine step_app_dp (by rfl) _ _ (by rfl) (w.heap.size + 3) (.slice D3 d.ops.length b3) d.ops.length (flat dpL d.ops) (by rfl) R15.out x w5.drew.heap.size (by rfl) C15.out hmo lb15 ?_
        intro vo16 q16 ho16 hg
        obtain ⟨E16, f16, rfl, y1, y2⟩ := own_shape ho16
        clear y1 y2
        have S16 : Hid (DoS (w.heap.size + 3) w4.heap.size w1.heap.size (n1 + 1) (doL x d.live) (.slice D2 d.safe.length b2) d.safe w4 q16) := S15.out.grown lb15 R15.out hg
        have lb16 : w.heap.size + 3 ≤ q16.heap.size := Nat.le_trans lb15 hg.size
        have R16 : Hid (q16.ownsRow (w.heap.size + 3) 36 4 (Value.slice E16 (d.ops.length + 1) f16) (d.ops.length + 1) (flat dpL d.ops ++ dpL x)) := ho16
        have K16 : Below (w.heap.size + 3) w5 q16 := K15.trans (grown_bel R15.out hg lb15)
        have L16 : Hid (q16.ownsRow (w.heap.size + 3) 75 2 (Value.slice E15 (doL x d.live).length f15) (doL x d.live).length (flat fiL (doL x d.live))) := L15.out.kept hg (own_ne_tyG L15.out R15.out (by decide))
        clear hg ho16
        refine hKq.out _ _ ?_ (fun hHeld => ?_)
        · exact sc_of lb K16
        clear hKq Kq
        try simp only [Act.put, List.getElem_toArray, List.getElem_cons_zero, List.getElem_cons_succ, List.setIfInBounds_toArray, List.set_cons_zero, List.set_cons_succ]
        refine wpAnyH_ready (rs := [8]) (by kernel_rfl) (by simp) (AllReadyH.cons rfl (fun Kq hKq => ?_) (AllReadyH.nil))
        obtain ⟨g0, hg0⟩ := S16.out.c0
        obtain ⟨g2, hg2⟩ := S16.out.c2
        have gf := S16.out.nf
        have gl : w4.heap.size < q16.heap.size := World.block_lt_of_cell? q16 ⟨w4.heap.size, 0, none⟩ hg0
        have EE : Hid (DoE (w.heap.size + 3) w4.heap.size (doL x d.live) d.safe (d.ops ++ [x]) (.slice D2 d.safe.length b2) w4 ((q16.setCell ⟨w4.heap.size, 0, none⟩ (Value.slice E15 (doL x d.live).length f15)).setCell ⟨w4.heap.size, 2, none⟩ (Value.slice E16 (d.ops.length + 1) f16))) := DoE.of S16.out lg L16.out (by rw [flat_snoc, List.length_append]; exact R16.out) NE15.out
        go_simp
        refine hKq.out _ _ ?_ (fun hHeld => ?_)
        · exact sc_of lb (K16.setCell (by show w.heap.size + 3 ≤ w4.heap.size; omega) _)
        clear hKq Kq
        try simp only [Act.put, List.getElem_toArray, List.getElem_cons_zero, List.getElem_cons_succ, List.setIfInBounds_toArray, List.set_cons_zero, List.set_cons_succ]
        refine wpAnyH_take (i := 9) (v := ?_) rfl (by kernel_rfl) (by kernel_rfl) (by kernel_rfl) (fun _ _ _ h => h) (Or.inl ⟨by rfl, ?_⟩) (by assumption) ?_
        rotate_left
        · (intro wq hSw; (try dsimp only at hSw); go_simp <;> with_reducible rfl)
        try simp only [Act.put, List.getElem_toArray, List.getElem_cons_zero, List.getElem_cons_succ, List.setIfInBounds_toArray, List.set_cons_zero, List.set_cons_succ]
        refine wpAnyH_ready (rs := [10]) (by kernel_rfl) (by simp) (AllReadyH.cons rfl (fun Kq hKq => ?_) (AllReadyH.nil))
        go_simp
        refine hKq.out _ _ ?_ (fun hHeld => ?_)
        · exact sc_of lb ((K16.setCell (by show w.heap.size + 3 ≤ w4.heap.size; omega) _).setCell (by show w.heap.size + 3 ≤ w4.heap.size; omega) _)
        clear hKq Kq
        try simp only [Act.put, List.getElem_toArray, List.getElem_cons_zero, List.getElem_cons_succ, List.setIfInBounds_toArray, List.set_cons_zero, List.set_cons_succ]
        refine wpAnyH_done (by kernel_rfl) ?_ _
        clear hHeld
        go_wp2_with fail
        go_meet
        exact ⟨rfl, EE.out⟩
  case rest =>
    obtain ⟨rfl, hE⟩ := hcut
    obtain ⟨⟨v1, v3, c0, c1, c2, o1, o2, o3, oa⟩, hbel⟩ := hE
    obtain ⟨E1, f1, rfl, y1, y2⟩ := own_shape o1
    obtain ⟨E3, f3, rfl, y5, y6⟩ := own_shape o3
    replace p0 := cyB hbel (by omega) p0
    replace p1 := cyB hbel (by omega) p1
    replace p2 := cyB hbel (by omega) p2
    replace pf : ∀ o, wc.frozen? ⟨w.heap.size + 1 + 1, o, none⟩ = false := fun o => by
      rw [hbel.frozen (p := ⟨w.heap.size + 1 + 1, o, none⟩) (by show w.heap.size + 1 + 1 < _; omega)]
      exact pf o
    have m5 : w.heap.size + 1 + 1 < wc.heap.size := Nat.lt_of_lt_of_le m4 hbel.size
    have HH : Hid (DkOwn wc (w.heap.size + 3) (.agg #[.slice E1 (doL x d.live).length f1, .slice D2 d.safe.length b2, .slice E3 (d.ops ++ [x]).length f3]) ⟨doL x d.live, d.safe, d.ops ++ [x]⟩) := ⟨_, _, _, rfl, o1, o2, o3, oa⟩
    have BE : Hid (Below w.heap.size w wc) := Below.trans BB.out (hbel.mono (by omega))
    have q1 : w4.heap.size < wc.heap.size := World.block_lt_of_cell? wc ⟨w4.heap.size, 0, none⟩ c0
    clear hbel o1 o2 o3 oa y1 y2 y5 y6 x0 x1 x2 x3
    go_wp2_with fail
    refine bodyPost_ret (v := .tuple #[.agg #[.slice E1 (doL x d.live).length f1, .slice D2 d.safe.length b2, .slice E3 (d.ops ++ [x]).length f3], .int .i64 0]) ?_ rfl ⟨_, rfl, ?_, ?_⟩
    · simp (maxDischargeDepth := 9) [results, Try.results20, go_sem, *]
    · exact (((HH.out.setJ (by omega) _ _).setJ (by omega) _ _).setJ (by omega) _ _).monoJ (by omega)
    · exact ((BE.out.setCell (by show w.heap.size ≤ w.heap.size + 1 + 1; omega) _).setCell (by show w.heap.size ≤ w.heap.size + 1 + 1; omega) _).setCell (by show w.heap.size ≤ w.heap.size + 1 + 1; omega) _
end Go.Proofs.Ytanjlpgdmnapdaa
