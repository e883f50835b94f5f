import Derived.Test.YtanjlpgdmnapdaaRpW
namespace Go.Proofs.Ytanjlpgdmnapdaa
open Go.RowKit Go.Maps
set_option linter.unusedSimpArgs false
set_option linter.unusedVariables false

section
variable {ops : Array Oper} {rest : List Oper} {o : Oper} {a : Act} {Q : Exit → Act → World → Prop}
/-- 'append(list, op, op)' onto a row of ops that may lie anywhere. -/
theorem wpList_app_dp2 {W : World} (hgd : o.guard = none) (s x : Operand) (ho : o.op = .call { callee := .builtin .append, args := #[s, x], argTypes := #[25, 25] }) (B : Nat) (v : Value) (n : Nat) (xs : List Value) (hs : a.eval s = v)
    (hown : W.ownsRow B 36 4 v n xs) (f g : DP) (hx : a.eval x = .slice (some ⟨W.heap.size, 0, none⟩) 2 2) (hn : n ≤ 1099511627776) (hB : B ≤ W.heap.size)
    (h : ∀ v' w', w'.ownsRow B 36 4 v' (n + 2) (xs ++ (dpL f ++ dpL g)) → (W.alloc (.cells #[.int .i64 f.k, .string f.n, .string f.t, .string f.d, .int .i64 g.k, .string g.n, .string g.t, .string g.d] 36)).grownBy w' v.ownBlock → wpList Try.prog ops Q rest (a.put o.dst v') w') :
    wpList Try.prog ops Q (o :: rest) a (W.alloc (.cells #[.int .i64 f.k, .string f.n, .string f.t, .string f.d, .int .i64 g.k, .string g.n, .string g.t, .string g.d] 36)) := by
  obtain ⟨i0, hi, iz0, iz1, iz2⟩ := info_parts infoDp
  refine wpList_append_own _ hgd _ _ 25 ho B 36 i0 (.agg #[.int .i64 0, .string ⟨#[]⟩, .string ⟨#[]⟩, .string ⟨#[]⟩]) 4 56 Try.underlying25 hi iz0 iz1 iz2 rfl (by decide) v n xs hs (hown.alloc _) ⟨W.heap.size, 0, none⟩ 2 2 [.int .i64 f.k, .string f.n, .string f.t, .string f.d, .int .i64 g.k, .string g.n, .string g.t, .string g.d] hx rfl ?_ ?_ ?_ ?_ ?_ ?_
  · intro q u hq
    match q, hq with
    | 0, hq => simp at hq; subst hq; simp [Addr.add]
    | 1, hq => simp at hq; subst hq; simp [Addr.add]
    | 2, hq => simp at hq; subst hq; simp [Addr.add]
    | 3, hq => simp at hq; subst hq; simp [Addr.add]
    | 4, hq => simp at hq; subst hq; simp [Addr.add]
    | 5, hq => simp at hq; subst hq; simp [Addr.add]
    | 6, hq => simp at hq; subst hq; simp [Addr.add]
    | 7, hq => simp at hq; subst hq; simp [Addr.add]
  · intro u hu; simp at hu; rcases hu with rfl | rfl | rfl | rfl | rfl | rfl | rfl | rfl <;> rfl
  · unfold maxLen; omega
  · omega
  · simp; omega
  · intro v' w3 hown' hgrow _
    exact h v' w3 hown' hgrow
end
theorem newS_ok {s : ByteArray} (h : s.size ≤ 1048576) : (newS s).size ≤ maxLen := by
  unfold newS maxLen; rw [ByteArray.size_append]; show s.size + 4 ≤ _; omega
theorem rpO_ok {s x : ByteArray} {b : Bool} (hs : s.size ≤ 1048576) (hx : x.size ≤ 1048576) : ∀ y ∈ rpO s x b, dpOk y ∧ y.d.size ≤ 1048576 := by
  have h1 := newS_ok hs
  have e : s.size ≤ maxLen := by unfold maxLen; omega
  have e2 : x.size ≤ maxLen := by unfold maxLen; omega
  have e3 : (⟨#[]⟩ : ByteArray).size ≤ maxLen := Nat.zero_le _
  have hA : dpOk (rpA s) ∧ (rpA s).d.size ≤ 1048576 := ⟨⟨h1, e3, e3⟩, Nat.zero_le _⟩
  have hB : dpOk (rpB s x) ∧ (rpB s x).d.size ≤ 1048576 := ⟨⟨h1, e3, e2⟩, hx⟩
  have hC : dpOk (rpR s) ∧ (rpR s).d.size ≤ 1048576 := ⟨⟨h1, e, e3⟩, Nat.zero_le _⟩
  intro y hy
  cases b
  · simp only [rpO, Bool.false_eq_true, if_false, List.mem_cons, List.not_mem_nil, or_false] at hy
    rcases hy with rfl | rfl
    · exact hB
    · exact hC
  · simp only [rpO, if_true, List.mem_cons, List.not_mem_nil, or_false] at hy
    rcases hy with rfl | rfl | rfl
    · exact hA
    · exact hB
    · exact hC
theorem rp_diskW {ops : List DP} {d : DK} (hd : diskB d = true) (hl : DkLil d) (ho : ∀ x ∈ ops, dpOk x ∧ x.d.size ≤ 1048576) : ∀ m, m ≤ ops.length → rpOk ops d m → diskB (rpN ops d m) = true ∧ DkLil (rpN ops d m)
  | 0, _, _ => ⟨hd, hl⟩
  | m + 1, hm, h => by
    obtain ⟨h1, h2⟩ := rp_diskW hd hl ho m (by omega) (rpOk_mono h (by omega))
    obtain ⟨x, hx⟩ := at_lt (L := ops) (t := m) rfl (by omega)
    have h0 := h m x (by omega) hx
    rw [rpN_step hx]
    exact ⟨act_disk h1 h0, act_lil h1 h2 (form_lil (doK_form_of h0) (ho x (List.mem_of_getElem? hx)).2) h0⟩
theorem doC_ne1 (x : DP) (L : List FI) : doC x L ≠ 1 := by
  unfold doC
  split
  · simp
  · split
    · simp
    · split <;> simp
theorem doK_ne1 (d : DK) (x : DP) : doK d x ≠ 1 := by
  unfold doK
  split
  · simp
  · exact doC_ne1 _ _
theorem grown_al {W W' : World} {o : Obj} {r : Option Nat} {B : Nat} (hg : (W.alloc o).grownBy W' r) (hB : B ≤ W.heap.size) (hr : ∀ q, some q = r → B ≤ q) : Below B W W' :=
  ((Below.refl _ _).alloc hB o).trans ⟨hg.os, hg.tape, hg.output, hg.size, fun q hq => hg.block q (by simp; omega) (fun e => by have := hr q e; omega)⟩
theorem below_sa3 {g : Nat} {w w4 : World} (h : Below w.heap.size w w4) (hg : w.heap.size ≤ g) (a b c : Value) : Below w.heap.size w (((w4.setCell ⟨g, 0, none⟩ a).setCell ⟨g, 1, none⟩ b).setCell ⟨g, 2, none⟩ c) := ((h.setCell (by show w.heap.size ≤ g; exact hg) _).setCell (by show w.heap.size ≤ g; exact hg) _).setCell (by show w.heap.size ≤ g; exact hg) _
theorem below_sa2 {g : Nat} {w w4 : World} (h : Below w.heap.size w w4) (hg : w.heap.size ≤ g) (a b c : Value) (o : Obj) : Below w.heap.size w ((((w4.setCell ⟨g, 0, none⟩ a).setCell ⟨g, 1, none⟩ b).setCell ⟨g, 2, none⟩ c).alloc o) := (below_sa3 h hg a b c).alloc (by have := h.size; simpa using this) o
theorem own_setD {u : World} {g B : Nat} {v : Value} {d : DK} {c : Array Value} {r : Nat × Nat} (h : DkOwn u B v d) (gb : u.heap[g]? = some (.cells c 27 r)) (o : Nat) (x : Value) : DkOwn (u.setCell ⟨g, o, none⟩ x) B v d := by
  obtain ⟨v1, v2, v3, e, h1, h2, h3, h4⟩ := h
  exact ⟨v1, v2, v3, e, own_setG h1 gb (by decide) o x, own_setG h2 gb (by decide) o x, own_setG h3 gb (by decide) o x, h4⟩
theorem own_setD3 {u : World} {g B : Nat} {v v1 v2 v3 : Value} {d : DK} {c : Array Value} {r : Nat × Nat} (h : DkOwn u B v d) (gb : u.heap[g]? = some (.cells c 27 r)) : DkOwn (((u.setCell ⟨g, 0, none⟩ v1).setCell ⟨g, 1, none⟩ v2).setCell ⟨g, 2, none⟩ v3) B v d := by
  obtain ⟨c', h1⟩ := set_blk (o := 0) (x := v1) gb
  obtain ⟨c'', h2⟩ := set_blk (o := 1) (x := v2) h1
  exact own_setD (own_setD (own_setD h gb 0 v1) h1 1 v2) h2 2 v3
/-- While the ops run: the disk so far, in its box. -/
structure RpI (w3 : World) (g : Nat) (OL : List DP) (d : DK) (m : Nat) (u : World) : Prop where
  ok : rpOk OL d m
  dk : 0 < m → diskB d = true
  ex : ∃ v1 v2 v3, u.cell? ⟨g, 0, none⟩ = some v1 ∧ u.cell? ⟨g, 1, none⟩ = some v2 ∧ u.cell? ⟨g, 2, none⟩ = some v3 ∧ DkRow u (.agg #[v1, v2, v3]) (rpN OL d m) ∧ (0 < m → DkOwn u w3.heap.size (.agg #[v1, v2, v3]) (rpN OL d m))
  nf : ∀ o, u.frozen? ⟨g, o, none⟩ = false
  gb : ∃ c r, u.heap[g]? = some (.cells c 27 r)
  bel : Below w3.heap.size w3 u
theorem frozen_set {u : World} {p q : Addr} {x : Value} : (u.setCell p x).frozen? q = u.frozen? q := by simp
theorem RpI.next {w3 u : World} {g m : Nat} {OL : List DP} {d : DK} {D1 D2 D3 x1 x2 x3 : Value} (ok : rpOk OL d (m + 1)) (dk : diskB d = true) (c0 : u.cell? ⟨g, 0, none⟩ = some x1) (c1 : u.cell? ⟨g, 1, none⟩ = some x2) (c2 : u.cell? ⟨g, 2, none⟩ = some x3)
    (ho : DkOwn u w3.heap.size (.agg #[D1, D2, D3]) (rpN OL d (m + 1))) (nf : ∀ o, u.frozen? ⟨g, o, none⟩ = false) (gb : ∃ c r, u.heap[g]? = some (.cells c 27 r)) (bel : Below w3.heap.size w3 u) (hg : w3.heap.size ≤ g) :
    RpI w3 g OL d (m + 1) (((u.setCell ⟨g, 0, none⟩ D1).setCell ⟨g, 1, none⟩ D2).setCell ⟨g, 2, none⟩ D3) := by
  obtain ⟨c, r, gb⟩ := gb
  obtain ⟨c', h1⟩ := set_blk (o := 0) (x := D1) gb
  obtain ⟨c'', h2⟩ := set_blk (o := 1) (x := D2) h1
  obtain ⟨c3, h3⟩ := set_blk (o := 2) (x := D3) h2
  have hown := own_setD3 (v1 := D1) (v2 := D2) (v3 := D3) ho gb
  refine ⟨ok, fun _ => dk, ⟨D1, D2, D3, ?_, ?_, ?_, hown.row, fun _ => hown⟩, fun o => by rw [frozen_set, frozen_set, frozen_set]; exact nf o, ⟨c3, r, h3⟩, bel_set3 bel hg⟩
  · rw [World.cell?_setCell_other _ _ _ _ (by intro e; cases e), World.cell?_setCell_other _ _ _ _ (by intro e; cases e)]; exact cell_blk c0 _
  · rw [World.cell?_setCell_other _ _ _ _ (by intro e; cases e)]
    exact cell_blk (x := x2) (by rw [World.cell?_setCell_other _ _ _ _ (by intro e; cases e)]; exact c1) _
  · exact cell_blk (x := x3) (by rw [World.cell?_setCell_other _ _ _ _ (by intro e; cases e), World.cell?_setCell_other _ _ _ _ (by intro e; cases e)]; exact c2) _
theorem RpI.below {w3 u u' : World} {g m : Nat} {OL : List DP} {d : DK} (h : RpI w3 g OL d m u) (hb : Below u.heap.size u u') : RpI w3 g OL d m u' := by
  obtain ⟨ok, dk, ⟨v1, v2, v3, c0, c1, c2, hr, ho⟩, nf, ⟨c, r, gb⟩, bl⟩ := h
  have hg : g < u.heap.size := (Array.getElem?_eq_some_iff.1 gb).1
  exact ⟨ok, dk, ⟨v1, v2, v3, cy hb c0, cy hb c1, cy hb c2, hr.below hb, fun h => (ho h).below hb⟩, fun o => (hb.frozen (p := ⟨g, o, none⟩) hg).trans (nf o), ⟨c, r, (hb.block g hg).trans gb⟩, bchain bl hb⟩
set_option maxRecDepth 100000 in
set_option maxHeartbeats 16000000 in
theorem impl_Replace_2 {v : Value} {d : DK} (s x : ByteArray) (w : World) (h : DkRow w v d) (hl : DkLil d) (hs : s.size ≤ 1048576) (hx : x.size ≤ 1048576) (hb0 : hasB (newS s) d.live = false) :
    Calls Try.prog 24 #[v, .string s, .string x] w fun e w' => ∃ v', e = .returned (.tuple #[v', .int .i64 (rpK d s x)]) ∧ DkOwn w' w.heap.size v' (rpD d s x) ∧ Below w.heap.size w w' := by
  have HR : Hid (DkRow w v d) := h
  have HL : Hid (DkLil d) := hl
  have HOO : Hid (∀ y ∈ [rpB s x, rpR s], dpOk y ∧ y.d.size ≤ 1048576) := rpO_ok (b := false) hs hx
  have HKK : Hid (rpK d s x = if diskB d = true then rpC [rpB s x, rpR s] d 2 else 1) := by show _ = _; rw [rpK, hb0]; rfl
  have HDD : Hid (rpD d s x = if diskB d = true then (if rpK d s x = 0 then rpN [rpB s x, rpR s] d 2 else d) else dk0) := by show _ = _; rw [rpD, hb0]; rfl
  have HBB : Hid (hasB (newS s) d.live = false) := hb0
  obtain ⟨OL, HOL⟩ : ∃ OL, Hid ([rpB s x, rpR s] = OL) := ⟨_, rfl⟩
  have HOL2 : Hid (OL.length = 2) := by rw [← HOL.out]; exact rfl
  rw [HOL.out] at HOO HKK HDD
  obtain ⟨a1, a2, a3, ac1, ac2, ac3, an1, an2, an3, rfl⟩ := h.agg
  have hsz : s.size + 4 ≤ 9223372036854775807 := by omega
  have HAP : Hid (s ++ (⟨#[46, 110, 101, 119]⟩ : ByteArray) = newS s) := rfl
  clear h hl hb0
  go_enter Try.func24, Try.ntmps24
  go_wp2_with fail
  try rw [HAP.out]
  refine (impl_read (newS s) _ (HR.out.below (by go_grown))).mono ?_
  rintro e w1 ⟨rfl, hb⟩
  rw [HBB.out]
  obtain ⟨dat, HDA⟩ : ∃ dat, Hid (dataK (newS s).data.toList d.live = dat) := ⟨_, rfl⟩
  rw [HDA.out]
  have k0 := cy hb (b := w.heap.size) (o := 0) (x := .slice a1 an1 ac1) (by go_simp)
  have k1 := cy hb (b := w.heap.size) (o := 1) (x := .slice a2 an2 ac2) (by go_simp)
  have k2 := cy hb (b := w.heap.size) (o := 2) (x := .slice a3 an3 ac3) (by go_simp)
  have p0 := cy hb (b := w.heap.size + 1) (o := 0) (x := .slice none 0 0) (by go_simp)
  have p1 := cy hb (b := w.heap.size + 1) (o := 1) (x := .slice none 0 0) (by go_simp)
  have p2 := cy hb (b := w.heap.size + 1) (o := 2) (x := .slice none 0 0) (by go_simp)
  have pf : ∀ o, w1.frozen? ⟨w.heap.size + 1, o, none⟩ = false := fun o => by
    rw [hb.frozen (p := ⟨w.heap.size + 1, o, none⟩) (by simp)]
    go_simp
  have HB1 : Hid (Below w.heap.size w w1) := Below.trans (by go_grown) (hb.mono (by simp; omega))
  have s1 : w.heap.size + 1 < w1.heap.size := World.block_lt_of_cell? w1 ⟨w.heap.size + 1, 0, none⟩ p0
  have s0 : w.heap.size < w1.heap.size := by omega
  clear hb
  go_wp2_with (first
    | (at_builtin; (refine wpList_app_dp2 rfl _ _ rfl w1.heap.size (.slice none 0 0) 0 [] rfl own_nil (rpB s x) (rpR s) (by rfl) (by omega) (Nat.le_refl _) ?_))
    | go_in)
  intro va w3 hown hg
  have hb : Below w1.heap.size w1 w3 := grown_al hg (Nat.le_refl _) (fun q e => by cases e)
  have HO3 : Hid (w3.ownsRow w1.heap.size 36 4 va 2 (flat dpL OL)) := by rw [← HOL.out]; exact hown
  replace k0 := cyB hb (by omega) k0
  replace k1 := cyB hb (by omega) k1
  replace k2 := cyB hb (by omega) k2
  replace p0 := cyB hb (by omega) p0
  replace p1 := cyB hb (by omega) p1
  replace p2 := cyB hb (by omega) p2
  replace pf : ∀ o, w3.frozen? ⟨w.heap.size + 1, o, none⟩ = false := fun o => by
    rw [hb.frozen (p := ⟨w.heap.size + 1, o, none⟩) (by show w.heap.size + 1 < _; omega)]
    exact pf o
  have HB3 : Hid (Below w.heap.size w w3) := bchain HB1.out hb
  have z3 := hb.size
  obtain ⟨A0', c0', rfl, y1, y2⟩ := own_shape HO3.out
  have HRO : Hid (DpRow w3 A0' OL) := RowAt.of_own dpL_len HO3.out HOL2.out
  have s3 : w.heap.size + 1 < w3.heap.size := by omega
  have s30 : w.heap.size < w3.heap.size := by omega
  clear hown hg hb y1 y2
  go_wp2_with fail
  go_loopw [43] (fun i wr => ∃ m : Nat, m ≤ 2 ∧ i = .int .i64 m ∧ RpI w3 w3.heap.size OL d m wr) (fun i _ => 2 - (intOf i).toNat)
  case atStart =>
    exact ⟨0, Nat.zero_le _, rfl, fun j y9 hj => by omega, fun h => by omega, ⟨_, _, _, by go_simp, by go_simp, by go_simp, HR.out.below (bchain HB3.out (by go_grown)), fun h => by omega⟩, fun o => by go_simp, ⟨_, _, blk_at rfl⟩, (Below.refl _ _).alloc (Nat.le_refl _) _⟩
  case round =>
    obtain ⟨m, hm, rfl, hI⟩ := hrel
    have HI : Hid (RpI w3 w3.heap.size OL d m wr) := hI
    have hbel := hI.bel
    have HBW : Hid (Below w.heap.size w wr) := bchain HB3.out hbel
    replace k0 := cy hbel k0
    replace k1 := cy hbel k1
    replace k2 := cy hbel k2
    replace p0 := cy hbel p0
    replace p1 := cy hbel p1
    replace p2 := cy hbel p2
    replace pf : ∀ o, wr.frozen? ⟨w.heap.size + 1, o, none⟩ = false := fun o => by
      rw [hbel.frozen (p := ⟨w.heap.size + 1, o, none⟩) s3]
      exact pf o
    have zr := hbel.size
    have r1 : w.heap.size + 1 < wr.heap.size := by omega
    have r0 : w.heap.size < wr.heap.size := by omega
    obtain ⟨v1, v2, v3, g0, g1, g2, hrow, hown⟩ := hI.ex
    obtain ⟨b1, b2, b3, bc1, bc2, bc3, bn1, bn2, bn3, ee⟩ := hrow.agg
    cases ee
    have HRW : Hid (DkRow wr (.agg #[.slice b1 bn1 bc1, .slice b2 bn2 bc2, .slice b3 bn3 bc3]) (rpN OL d m)) := hrow
    have HOW : Hid (0 < m → DkOwn wr w3.heap.size (.agg #[.slice b1 bn1 bc1, .slice b2 bn2 bc2, .slice b3 bn3 bc3]) (rpN OL d m)) := hown
    have gf := hI.nf
    have zg : w3.heap.size < wr.heap.size := World.block_lt_of_cell? wr ⟨w3.heap.size, 0, none⟩ g0
    clear hrow hown hI
    by_cases hlt : m < 2
    · obtain ⟨y9, hx⟩ := at_lt HOL2.out hlt
      have HXT : Hid (OL[m]? = some y9) := hx
      obtain ⟨b, o, rfl, hl8, hc⟩ := HRO.out.2 m y9 hx
      have e0 : wr.cell? ⟨b, o + m * 4, none⟩ = some (.int .i64 y9.k) := (hbel.cell (p := ⟨b, o + m * 4, none⟩) hl8).trans (hc 0 _ rfl)
      have e1 : wr.cell? ⟨b, o + m * 4 + 1, none⟩ = some (.string y9.n) := (hbel.cell (p := ⟨b, o + m * 4 + 1, none⟩) hl8).trans (hc 1 _ rfl)
      have e2 : wr.cell? ⟨b, o + m * 4 + 2, none⟩ = some (.string y9.t) := (hbel.cell (p := ⟨b, o + m * 4 + 2, none⟩) hl8).trans (hc 2 _ rfl)
      have e3 : wr.cell? ⟨b, o + m * 4 + 3, none⟩ = some (.string y9.d) := (hbel.cell (p := ⟨b, o + m * 4 + 3, none⟩) hl8).trans (hc 3 _ rfl)
      have hb8 : b < wr.heap.size := Nat.lt_of_lt_of_le hl8 zr
      have HXO : Hid (dpOk y9 ∧ y9.d.size ≤ 1048576) := HOO.out y9 (List.mem_of_getElem? hx)
      have h0 : (0 : Int) ≤ (m : Int) := by omega
      have h1 : (m : Int) < (2 : Int) := by omega
      obtain ⟨dm, HDM⟩ : ∃ dm, Hid (rpN OL d m = dm) := ⟨_, rfl⟩
      rw [HDM.out] at HRW
      have HLM : Hid (DkLil dm) := by
        rw [← HDM.out]
        by_cases hm0 : m = 0
        · subst hm0; exact HL.out
        · exact (rp_diskW (HI.out.dk (by omega)) HL.out HOO.out m (by rw [HOL2.out]; omega) HI.out.ok).2
      obtain ⟨sk, HSK⟩ : ∃ sk, Hid (sdK dm y9 = sk) := ⟨_, rfl⟩
      clear hc hx hbel
      go_wp2_with fail
      refine (impl_DoW y9 _ (HRW.out.below (by go_grown)) HLM.out HXO.out.1 HXO.out.2).mono ?_
      rintro e u1 ⟨vn, rfl, ho, hb⟩
      rw [HSK.out]
      have U1 : Hid (Below wr.heap.size wr u1) := Below.trans (by go_grown) (hb.mono (by simp))
      obtain ⟨v1, v2, v3, rfl, o1, o2, o3, oa⟩ := ho
      obtain ⟨D1, q1, rfl, y1, y2⟩ := own_shape o1
      obtain ⟨D2, q2, rfl, y3, y4⟩ := own_shape o2
      obtain ⟨D3, q3, rfl, y5, y6⟩ := own_shape o3
      have HON : Hid (DkOwn u1 w3.heap.size (.agg #[.slice D1 (sdD dm y9).live.length q1, .slice D2 (sdD dm y9).safe.length q2, .slice D3 (sdD dm y9).ops.length q3]) (sdD dm y9)) := ⟨_, _, _, rfl, own_mono o1 (by simp; omega), own_mono o2 (by simp; omega), own_mono o3 (by simp; omega), oa⟩
      obtain ⟨l1, HL1⟩ : ∃ l1, Hid ((sdD dm y9).live.length = l1) := ⟨_, rfl⟩
      obtain ⟨l2, HL2⟩ : ∃ l2, Hid ((sdD dm y9).safe.length = l2) := ⟨_, rfl⟩
      obtain ⟨l3, HL3⟩ : ∃ l3, Hid ((sdD dm y9).ops.length = l3) := ⟨_, rfl⟩
      rw [HL1.out, HL2.out, HL3.out] at HON
      rw [HL1.out, HL2.out, HL3.out]
      have HI1 : Hid (RpI w3 w3.heap.size OL d m u1) := HI.out.below U1.out
      have HB5 : Hid (Below w.heap.size w u1) := bchain HBW.out U1.out
      have z1 : wr.heap.size ≤ u1.heap.size := U1.out.size
      replace k0 := cy U1.out k0
      replace k1 := cy U1.out k1
      replace k2 := cy U1.out k2
      replace p0 := cy U1.out p0
      replace p1 := cy U1.out p1
      replace p2 := cy U1.out p2
      replace pf : ∀ o, u1.frozen? ⟨w.heap.size + 1, o, none⟩ = false := fun o => by
        rw [U1.out.frozen (p := ⟨w.heap.size + 1, o, none⟩) r1]
        exact pf o
      replace g0 := cy U1.out g0
      replace g1 := cy U1.out g1
      replace g2 := cy U1.out g2
      replace gf := HI1.out.nf
      have t1 : w.heap.size + 1 < u1.heap.size := by omega
      have t0 : w.heap.size < u1.heap.size := by omega
      have tg : w3.heap.size < u1.heap.size := by omega
      clear hb o1 o2 o3 oa y1 y2 y3 y4 y5 y6 e0 e1 e2 e3
      cases hdd : diskB d with
      | false =>
        have hm0 : m = 0 := Nat.eq_zero_of_not_pos fun h => by have := HI.out.dk h; rw [hdd] at this; cases this
        have HSE : Hid (sk = 1) := by show _ = _; rw [← HSK.out, ← HDM.out, hm0]; show sdK d y9 = 1; rw [sdK, if_neg (by rw [hdd]; simp)]
        have HK1 : Hid (rpK d s x = 1) := by show _ = _; rw [HKK.out, if_neg (by rw [hdd]; simp)]
        have HD1 : Hid (rpD d s x = dk0) := by show _ = _; rw [HDD.out, if_neg (by rw [hdd]; simp)]
        rw [HSE.out]
        go_wp2_with fail
        refine bodyPost_ret (v := .tuple #[.agg #[.slice none 0 0, .slice none 0 0, .slice none 0 0], .int .i64 1]) ?_ rfl ⟨_, by rw [HK1.out], by rw [HD1.out]; exact own_dk0, ?_⟩
        · simp (maxDischargeDepth := 9) [results, Try.results24, go_sem, *]
        · first | exact below_sa2 HB5.out (by omega) _ _ _ _ | exact below_sa3 HB5.out (by omega) _ _ _ _
      | true =>
        have HDB : Hid (diskB dm = true) := by rw [← HDM.out]; exact (rp_diskW hdd HL.out HOO.out m (by rw [HOL2.out]; omega) HI.out.ok).1
        have HSE : Hid (sk = doK dm y9) := by show _ = _; rw [← HSK.out, sdK, if_pos HDB.out]
        have HSD : Hid (sdD dm y9 = acD dm y9) := by show _ = _; rw [sdD, if_pos HDB.out]
        by_cases hk0 : sk = 0
        · have HAC : Hid (rpN OL d (m + 1) = sdD dm y9) := by show _ = _; rw [rpN_step HXT.out, HDM.out, HSD.out]
          have HOKN : Hid (rpOk OL d (m + 1)) := rpOk_step HI.out.ok HXT.out (by rw [HDM.out, ← HSE.out]; exact hk0)
          have HNX := RpI.next HOKN.out hdd g0 g1 g2 (by rw [HAC.out]; exact HON.out) gf HI1.out.gb HI1.out.bel (Nat.le_refl _)
          have HNH : Hid (RpI w3 w3.heap.size OL d (m + 1) (((u1.setCell ⟨w3.heap.size, 0, none⟩ (.slice D1 l1 q1)).setCell ⟨w3.heap.size, 1, none⟩ (.slice D2 l2 q2)).setCell ⟨w3.heap.size, 2, none⟩ (.slice D3 l3 q3))) := HNX
          have hk1 : (sk == 0) = true := by simpa using hk0
          clear HNX
          subst hk0
          go_wp2_with fail
          go_roundw
          case rel => exact ⟨m + 1, by omega, by go_num, HNH.out.below (by go_grown)⟩
          case measure => simp [intOf]; omega
        · have hk1 : (sk == 0) = false := by simpa using hk0
          have hk2 : ¬ sk = 1 := by rw [HSE.out]; exact doK_ne1 _ _
          have hk3 : (sk == 1) = false := by simpa using hk2
          have HKE : Hid (rpK d s x = sk) := by show _ = _; rw [HKK.out, if_pos hdd, rpC_end HI.out.ok HXT.out (by rw [HDM.out, ← HSE.out]; exact hk0) HOL2.out, HDM.out, HSE.out]
          have HDE : Hid (rpD d s x = d) := by show _ = _; rw [HDD.out, if_pos hdd, HKE.out, if_neg hk0]
          go_wp2_with fail
          refine (impl_copied _ (HR.out.below (bchain HB5.out (by go_grown))) HL.out).mono ?_
          rintro e u2 ⟨vv, rfl, ⟨v1, v2, v3, rfl, o1, o2, o3, oa⟩, hb⟩
          have U2 : Hid (Below u1.heap.size u1 u2) := Below.trans (by go_grown) (hb.mono (by simp))
          have HH : Hid (DkOwn u2 (w.heap.size + 2) (.agg #[v1, v2, v3]) d) := ⟨_, _, _, rfl, own_mono o1 (by simp; omega), own_mono o2 (by simp; omega), own_mono o3 (by simp; omega), oa⟩
          obtain ⟨M1, q1, rfl, y1, y2⟩ := own_shape o1
          obtain ⟨M2, q2, rfl, y3, y4⟩ := own_shape o2
          obtain ⟨M3, q3, rfl, y5, y6⟩ := own_shape o3
          have HB6 : Hid (Below w.heap.size w u2) := bchain HB5.out U2.out
          replace p0 := cy U2.out p0
          replace p1 := cy U2.out p1
          replace p2 := cy U2.out p2
          replace pf : ∀ o, u2.frozen? ⟨w.heap.size + 1, o, none⟩ = false := fun o => by
            rw [U2.out.frozen (p := ⟨w.heap.size + 1, o, none⟩) t1]
            exact pf o
          have z6 : u1.heap.size ≤ u2.heap.size := U2.out.size
          have t6 : w.heap.size + 1 < u2.heap.size := by omega
          clear hb o1 o2 o3 oa y1 y2 y3 y4 y5 y6 k0 k1 k2
          go_wp2_with fail
          refine bodyPost_ret (v := .tuple #[.agg #[.slice M1 d.live.length q1, .slice M2 d.safe.length q2, .slice M3 d.ops.length q3], .int .i64 sk]) ?_ rfl ⟨_, by rw [HKE.out], ?_, ?_⟩
          · simp (maxDischargeDepth := 9) [results, Try.results24, go_sem, *]
          · rw [HDE.out]; exact (((HH.out.setJ (by omega) _ _).setJ (by omega) _ _).setJ (by omega) _ _).monoJ (by omega)
          · exact below_sa3 HB6.out (by omega) _ _ _
    · have h1 : ¬ (m : Int) < (2 : Int) := by omega
      obtain rfl : m = 2 := by omega
      have hdd := HI.out.dk (by omega)
      have HK0 : Hid (rpK d s x = 0) := by show _ = _; rw [HKK.out, if_pos hdd]; exact rpC_ok HI.out.ok
      have HD0 : Hid (rpD d s x = rpN OL d 2) := by show _ = _; rw [HDD.out, if_pos hdd, if_pos HK0.out]
      have HOE := HOW.out (by omega)
      obtain ⟨dm, HDM⟩ : ∃ dm, Hid (rpN OL d 2 = dm) := ⟨_, rfl⟩
      rw [HDM.out] at HOE
      have HOE2 : Hid (DkOwn wr w3.heap.size (.agg #[.slice b1 bn1 bc1, .slice b2 bn2 bc2, .slice b3 bn3 bc3]) dm) := HOE
      clear HOE hbel
      go_wp2_with fail
      refine bodyPost_ret (v := .tuple #[.agg #[.slice b1 bn1 bc1, .slice b2 bn2 bc2, .slice b3 bn3 bc3], .int .i64 0]) ?_ rfl ⟨_, by rw [HK0.out], ?_, ?_⟩
      · simp (maxDischargeDepth := 9) [results, Try.results24, go_sem, *]
      · rw [HD0.out, HDM.out]; exact (((HOE2.out.setJ (by omega) _ _).setJ (by omega) _ _).setJ (by omega) _ _).monoJ (by omega)
      · exact below_sa3 HBW.out (by omega) _ _ _
set_option maxRecDepth 100000 in
set_option maxHeartbeats 16000000 in
theorem impl_Replace_3 {v : Value} {d : DK} (s x : ByteArray) (w : World) (h : DkRow w v d) (hl : DkLil d) (hs : s.size ≤ 1048576) (hx : x.size ≤ 1048576) (hb0 : hasB (newS s) d.live = true) :
    Calls Try.prog 24 #[v, .string s, .string x] w fun e w' => ∃ v', e = .returned (.tuple #[v', .int .i64 (rpK d s x)]) ∧ DkOwn w' w.heap.size v' (rpD d s x) ∧ Below w.heap.size w w' := by
  have HR : Hid (DkRow w v d) := h
  have HL : Hid (DkLil d) := hl
  have HOO : Hid (∀ y ∈ [rpA s, rpB s x, rpR s], dpOk y ∧ y.d.size ≤ 1048576) := rpO_ok (b := true) hs hx
  have HKK : Hid (rpK d s x = if diskB d = true then rpC [rpA s, rpB s x, rpR s] d 3 else 1) := by show _ = _; rw [rpK, hb0]; rfl
  have HDD : Hid (rpD d s x = if diskB d = true then (if rpK d s x = 0 then rpN [rpA s, rpB s x, rpR s] d 3 else d) else dk0) := by show _ = _; rw [rpD, hb0]; rfl
  have HBB : Hid (hasB (newS s) d.live = true) := hb0
  obtain ⟨OL, HOL⟩ : ∃ OL, Hid ([rpA s, rpB s x, rpR s] = OL) := ⟨_, rfl⟩
  have HOL2 : Hid (OL.length = 3) := by rw [← HOL.out]; exact rfl
  rw [HOL.out] at HOO HKK HDD
  obtain ⟨a1, a2, a3, ac1, ac2, ac3, an1, an2, an3, rfl⟩ := h.agg
  have hsz : s.size + 4 ≤ 9223372036854775807 := by omega
  have HAP : Hid (s ++ (⟨#[46, 110, 101, 119]⟩ : ByteArray) = newS s) := rfl
  clear h hl hb0
  go_enter Try.func24, Try.ntmps24
  go_wp2_with fail
  try rw [HAP.out]
  refine (impl_read (newS s) _ (HR.out.below (by go_grown))).mono ?_
  rintro e w1 ⟨rfl, hb⟩
  rw [HBB.out]
  obtain ⟨dat, HDA⟩ : ∃ dat, Hid (dataK (newS s).data.toList d.live = dat) := ⟨_, rfl⟩
  rw [HDA.out]
  have k0 := cy hb (b := w.heap.size) (o := 0) (x := .slice a1 an1 ac1) (by go_simp)
  have k1 := cy hb (b := w.heap.size) (o := 1) (x := .slice a2 an2 ac2) (by go_simp)
  have k2 := cy hb (b := w.heap.size) (o := 2) (x := .slice a3 an3 ac3) (by go_simp)
  have p0 := cy hb (b := w.heap.size + 1) (o := 0) (x := .slice none 0 0) (by go_simp)
  have p1 := cy hb (b := w.heap.size + 1) (o := 1) (x := .slice none 0 0) (by go_simp)
  have p2 := cy hb (b := w.heap.size + 1) (o := 2) (x := .slice none 0 0) (by go_simp)
  have pf : ∀ o, w1.frozen? ⟨w.heap.size + 1, o, none⟩ = false := fun o => by
    rw [hb.frozen (p := ⟨w.heap.size + 1, o, none⟩) (by simp)]
    go_simp
  have HB1 : Hid (Below w.heap.size w w1) := Below.trans (by go_grown) (hb.mono (by simp; omega))
  have s1 : w.heap.size + 1 < w1.heap.size := World.block_lt_of_cell? w1 ⟨w.heap.size + 1, 0, none⟩ p0
  have s0 : w.heap.size < w1.heap.size := by omega
  clear hb
  go_wp2_with (first
    | (at_builtin; (refine wpList_app_dp rfl _ _ rfl w1.heap.size (.slice none 0 0) 0 [] rfl own_nil (rpA s) (by rfl) (by omega) (Nat.le_refl _) ?_))
    | go_in)
  intro va w2 hown hg
  have hb : Below w1.heap.size w1 w2 := grown_al hg (Nat.le_refl _) (fun q e => by cases e)
  obtain ⟨A0, c0, rfl, y1, y2⟩ := own_shape hown
  have HO2 : Hid (w2.ownsRow w1.heap.size 36 4 (.slice A0 1 c0) 1 (dpL (rpA s))) := hown
  have z2 := hb.size
  replace k0 := cyB hb (by omega) k0
  replace k1 := cyB hb (by omega) k1
  replace k2 := cyB hb (by omega) k2
  replace p0 := cyB hb (by omega) p0
  replace p1 := cyB hb (by omega) p1
  replace p2 := cyB hb (by omega) p2
  replace pf : ∀ o, w2.frozen? ⟨w.heap.size + 1, o, none⟩ = false := fun o => by
    rw [hb.frozen (p := ⟨w.heap.size + 1, o, none⟩) (by show w.heap.size + 1 < _; omega)]
    exact pf o
  have HB2 : Hid (Below w.heap.size w w2) := bchain HB1.out hb
  have s2 : w.heap.size + 1 < w2.heap.size := by omega
  have s20 : w.heap.size < w2.heap.size := by omega
  clear hown hg hb y1 y2
  go_wp2_with (first
    | (at_builtin; (refine wpList_app_dp2 rfl _ _ rfl w1.heap.size (.slice A0 1 c0) 1 (dpL (rpA s)) rfl HO2.out (rpB s x) (rpR s) (by rfl) (by omega) (by omega) ?_))
    | go_in)
  intro va w3 hown hg
  have hlt : ∀ p, some p = (Value.slice A0 1 c0).ownBlock → w1.heap.size ≤ p ∧ p < w2.heap.size := fun p e => HO2.out.lt p e.symm
  have hb : Below w1.heap.size w2 w3 := grown_al hg (by omega) (fun q e => (hlt q e).1)
  have HO3 : Hid (w3.ownsRow w1.heap.size 36 4 va 3 (flat dpL OL)) := by rw [← HOL.out]; exact hown
  replace k0 := cyB hb (by omega) k0
  replace k1 := cyB hb (by omega) k1
  replace k2 := cyB hb (by omega) k2
  replace p0 := cyB hb (by omega) p0
  replace p1 := cyB hb (by omega) p1
  replace p2 := cyB hb (by omega) p2
  replace pf : ∀ o, w3.frozen? ⟨w.heap.size + 1, o, none⟩ = false := fun o => by
    rw [hb.frozen (p := ⟨w.heap.size + 1, o, none⟩) (by show w.heap.size + 1 < _; omega)]
    exact pf o
  have HB3 : Hid (Below w.heap.size w w3) := Below.trans HB2.out (hb.mono (by omega))
  have z3 := hb.size
  obtain ⟨A0', c0', rfl, y1, y2⟩ := own_shape HO3.out
  have HRO : Hid (DpRow w3 A0' OL) := RowAt.of_own dpL_len HO3.out HOL2.out
  have s3 : w.heap.size + 1 < w3.heap.size := by omega
  have s30 : w.heap.size < w3.heap.size := by omega
  clear hown hg hb y1 y2
  go_wp2_with fail
  go_loopw [43] (fun i wr => ∃ m : Nat, m ≤ 3 ∧ i = .int .i64 m ∧ RpI w3 w3.heap.size OL d m wr) (fun i _ => 3 - (intOf i).toNat)
  case atStart =>
    exact ⟨0, Nat.zero_le _, rfl, fun j y9 hj => by omega, fun h => by omega, ⟨_, _, _, by go_simp, by go_simp, by go_simp, HR.out.below (bchain HB3.out (by go_grown)), fun h => by omega⟩, fun o => by go_simp, ⟨_, _, blk_at rfl⟩, (Below.refl _ _).alloc (Nat.le_refl _) _⟩
  case round =>
    obtain ⟨m, hm, rfl, hI⟩ := hrel
    have HI : Hid (RpI w3 w3.heap.size OL d m wr) := hI
    have hbel := hI.bel
    have HBW : Hid (Below w.heap.size w wr) := bchain HB3.out hbel
    replace k0 := cy hbel k0
    replace k1 := cy hbel k1
    replace k2 := cy hbel k2
    replace p0 := cy hbel p0
    replace p1 := cy hbel p1
    replace p2 := cy hbel p2
    replace pf : ∀ o, wr.frozen? ⟨w.heap.size + 1, o, none⟩ = false := fun o => by
      rw [hbel.frozen (p := ⟨w.heap.size + 1, o, none⟩) s3]
      exact pf o
    have zr := hbel.size
    have r1 : w.heap.size + 1 < wr.heap.size := by omega
    have r0 : w.heap.size < wr.heap.size := by omega
    obtain ⟨v1, v2, v3, g0, g1, g2, hrow, hown⟩ := hI.ex
    obtain ⟨b1, b2, b3, bc1, bc2, bc3, bn1, bn2, bn3, ee⟩ := hrow.agg
    cases ee
    have HRW : Hid (DkRow wr (.agg #[.slice b1 bn1 bc1, .slice b2 bn2 bc2, .slice b3 bn3 bc3]) (rpN OL d m)) := hrow
    have HOW : Hid (0 < m → DkOwn wr w3.heap.size (.agg #[.slice b1 bn1 bc1, .slice b2 bn2 bc2, .slice b3 bn3 bc3]) (rpN OL d m)) := hown
    have gf := hI.nf
    have zg : w3.heap.size < wr.heap.size := World.block_lt_of_cell? wr ⟨w3.heap.size, 0, none⟩ g0
    clear hrow hown hI
    by_cases hlt : m < 3
    · obtain ⟨y9, hx⟩ := at_lt HOL2.out hlt
      have HXT : Hid (OL[m]? = some y9) := hx
      obtain ⟨b, o, rfl, hl8, hc⟩ := HRO.out.2 m y9 hx
      have e0 : wr.cell? ⟨b, o + m * 4, none⟩ = some (.int .i64 y9.k) := (hbel.cell (p := ⟨b, o + m * 4, none⟩) hl8).trans (hc 0 _ rfl)
      have e1 : wr.cell? ⟨b, o + m * 4 + 1, none⟩ = some (.string y9.n) := (hbel.cell (p := ⟨b, o + m * 4 + 1, none⟩) hl8).trans (hc 1 _ rfl)
      have e2 : wr.cell? ⟨b, o + m * 4 + 2, none⟩ = some (.string y9.t) := (hbel.cell (p := ⟨b, o + m * 4 + 2, none⟩) hl8).trans (hc 2 _ rfl)
      have e3 : wr.cell? ⟨b, o + m * 4 + 3, none⟩ = some (.string y9.d) := (hbel.cell (p := ⟨b, o + m * 4 + 3, none⟩) hl8).trans (hc 3 _ rfl)
      have hb8 : b < wr.heap.size := Nat.lt_of_lt_of_le hl8 zr
      have HXO : Hid (dpOk y9 ∧ y9.d.size ≤ 1048576) := HOO.out y9 (List.mem_of_getElem? hx)
      have h0 : (0 : Int) ≤ (m : Int) := by omega
      have h1 : (m : Int) < (3 : Int) := by omega
      obtain ⟨dm, HDM⟩ : ∃ dm, Hid (rpN OL d m = dm) := ⟨_, rfl⟩
      rw [HDM.out] at HRW
      have HLM : Hid (DkLil dm) := by
        rw [← HDM.out]
        by_cases hm0 : m = 0
        · subst hm0; exact HL.out
        · exact (rp_diskW (HI.out.dk (by omega)) HL.out HOO.out m (by rw [HOL2.out]; omega) HI.out.ok).2
      obtain ⟨sk, HSK⟩ : ∃ sk, Hid (sdK dm y9 = sk) := ⟨_, rfl⟩
      clear hc hx hbel
      go_wp2_with fail
      refine (impl_DoW y9 _ (HRW.out.below (by go_grown)) HLM.out HXO.out.1 HXO.out.2).mono ?_
      rintro e u1 ⟨vn, rfl, ho, hb⟩
      rw [HSK.out]
      have U1 : Hid (Below wr.heap.size wr u1) := Below.trans (by go_grown) (hb.mono (by simp))
      obtain ⟨v1, v2, v3, rfl, o1, o2, o3, oa⟩ := ho
      obtain ⟨D1, q1, rfl, y1, y2⟩ := own_shape o1
      obtain ⟨D2, q2, rfl, y3, y4⟩ := own_shape o2
      obtain ⟨D3, q3, rfl, y5, y6⟩ := own_shape o3
      have HON : Hid (DkOwn u1 w3.heap.size (.agg #[.slice D1 (sdD dm y9).live.length q1, .slice D2 (sdD dm y9).safe.length q2, .slice D3 (sdD dm y9).ops.length q3]) (sdD dm y9)) := ⟨_, _, _, rfl, own_mono o1 (by simp; omega), own_mono o2 (by simp; omega), own_mono o3 (by simp; omega), oa⟩
      obtain ⟨l1, HL1⟩ : ∃ l1, Hid ((sdD dm y9).live.length = l1) := ⟨_, rfl⟩
      obtain ⟨l2, HL2⟩ : ∃ l2, Hid ((sdD dm y9).safe.length = l2) := ⟨_, rfl⟩
      obtain ⟨l3, HL3⟩ : ∃ l3, Hid ((sdD dm y9).ops.length = l3) := ⟨_, rfl⟩
      rw [HL1.out, HL2.out, HL3.out] at HON
      rw [HL1.out, HL2.out, HL3.out]
      have HI1 : Hid (RpI w3 w3.heap.size OL d m u1) := HI.out.below U1.out
      have HB5 : Hid (Below w.heap.size w u1) := bchain HBW.out U1.out
      have z1 : wr.heap.size ≤ u1.heap.size := U1.out.size
      replace k0 := cy U1.out k0
      replace k1 := cy U1.out k1
      replace k2 := cy U1.out k2
      replace p0 := cy U1.out p0
      replace p1 := cy U1.out p1
      replace p2 := cy U1.out p2
      replace pf : ∀ o, u1.frozen? ⟨w.heap.size + 1, o, none⟩ = false := fun o => by
        rw [U1.out.frozen (p := ⟨w.heap.size + 1, o, none⟩) r1]
        exact pf o
      replace g0 := cy U1.out g0
      replace g1 := cy U1.out g1
      replace g2 := cy U1.out g2
      replace gf := HI1.out.nf
      have t1 : w.heap.size + 1 < u1.heap.size := by omega
      have t0 : w.heap.size < u1.heap.size := by omega
      have tg : w3.heap.size < u1.heap.size := by omega
      clear hb o1 o2 o3 oa y1 y2 y3 y4 y5 y6 e0 e1 e2 e3
      cases hdd : diskB d with
      | false =>
        have hm0 : m = 0 := Nat.eq_zero_of_not_pos fun h => by have := HI.out.dk h; rw [hdd] at this; cases this
        have HSE : Hid (sk = 1) := by show _ = _; rw [← HSK.out, ← HDM.out, hm0]; show sdK d y9 = 1; rw [sdK, if_neg (by rw [hdd]; simp)]
        have HK1 : Hid (rpK d s x = 1) := by show _ = _; rw [HKK.out, if_neg (by rw [hdd]; simp)]
        have HD1 : Hid (rpD d s x = dk0) := by show _ = _; rw [HDD.out, if_neg (by rw [hdd]; simp)]
        rw [HSE.out]
        go_wp2_with fail
        refine bodyPost_ret (v := .tuple #[.agg #[.slice none 0 0, .slice none 0 0, .slice none 0 0], .int .i64 1]) ?_ rfl ⟨_, by rw [HK1.out], by rw [HD1.out]; exact own_dk0, ?_⟩
        · simp (maxDischargeDepth := 9) [results, Try.results24, go_sem, *]
        · first | exact below_sa2 HB5.out (by omega) _ _ _ _ | exact below_sa3 HB5.out (by omega) _ _ _ _
      | true =>
        have HDB : Hid (diskB dm = true) := by rw [← HDM.out]; exact (rp_diskW hdd HL.out HOO.out m (by rw [HOL2.out]; omega) HI.out.ok).1
        have HSE : Hid (sk = doK dm y9) := by show _ = _; rw [← HSK.out, sdK, if_pos HDB.out]
        have HSD : Hid (sdD dm y9 = acD dm y9) := by show _ = _; rw [sdD, if_pos HDB.out]
        by_cases hk0 : sk = 0
        · have HAC : Hid (rpN OL d (m + 1) = sdD dm y9) := by show _ = _; rw [rpN_step HXT.out, HDM.out, HSD.out]
          have HOKN : Hid (rpOk OL d (m + 1)) := rpOk_step HI.out.ok HXT.out (by rw [HDM.out, ← HSE.out]; exact hk0)
          have HNX := RpI.next HOKN.out hdd g0 g1 g2 (by rw [HAC.out]; exact HON.out) gf HI1.out.gb HI1.out.bel (Nat.le_refl _)
          have HNH : Hid (RpI w3 w3.heap.size OL d (m + 1) (((u1.setCell ⟨w3.heap.size, 0, none⟩ (.slice D1 l1 q1)).setCell ⟨w3.heap.size, 1, none⟩ (.slice D2 l2 q2)).setCell ⟨w3.heap.size, 2, none⟩ (.slice D3 l3 q3))) := HNX
          have hk1 : (sk == 0) = true := by simpa using hk0
          clear HNX
          subst hk0
          go_wp2_with fail
          go_roundw
          case rel => exact ⟨m + 1, by omega, by go_num, HNH.out.below (by go_grown)⟩
          case measure => simp [intOf]; omega
        · have hk1 : (sk == 0) = false := by simpa using hk0
          have hk2 : ¬ sk = 1 := by rw [HSE.out]; exact doK_ne1 _ _
          have hk3 : (sk == 1) = false := by simpa using hk2
          have HKE : Hid (rpK d s x = sk) := by show _ = _; rw [HKK.out, if_pos hdd, rpC_end HI.out.ok HXT.out (by rw [HDM.out, ← HSE.out]; exact hk0) HOL2.out, HDM.out, HSE.out]
          have HDE : Hid (rpD d s x = d) := by show _ = _; rw [HDD.out, if_pos hdd, HKE.out, if_neg hk0]
          go_wp2_with fail
          refine (impl_copied _ (HR.out.below (bchain HB5.out (by go_grown))) HL.out).mono ?_
          rintro e u2 ⟨vv, rfl, ⟨v1, v2, v3, rfl, o1, o2, o3, oa⟩, hb⟩
          have U2 : Hid (Below u1.heap.size u1 u2) := Below.trans (by go_grown) (hb.mono (by simp))
          have HH : Hid (DkOwn u2 (w.heap.size + 2) (.agg #[v1, v2, v3]) d) := ⟨_, _, _, rfl, own_mono o1 (by simp; omega), own_mono o2 (by simp; omega), own_mono o3 (by simp; omega), oa⟩
          obtain ⟨M1, q1, rfl, y1, y2⟩ := own_shape o1
          obtain ⟨M2, q2, rfl, y3, y4⟩ := own_shape o2
          obtain ⟨M3, q3, rfl, y5, y6⟩ := own_shape o3
          have HB6 : Hid (Below w.heap.size w u2) := bchain HB5.out U2.out
          replace p0 := cy U2.out p0
          replace p1 := cy U2.out p1
          replace p2 := cy U2.out p2
          replace pf : ∀ o, u2.frozen? ⟨w.heap.size + 1, o, none⟩ = false := fun o => by
            rw [U2.out.frozen (p := ⟨w.heap.size + 1, o, none⟩) t1]
            exact pf o
          have z6 : u1.heap.size ≤ u2.heap.size := U2.out.size
          have t6 : w.heap.size + 1 < u2.heap.size := by omega
          clear hb o1 o2 o3 oa y1 y2 y3 y4 y5 y6 k0 k1 k2
          go_wp2_with fail
          refine bodyPost_ret (v := .tuple #[.agg #[.slice M1 d.live.length q1, .slice M2 d.safe.length q2, .slice M3 d.ops.length q3], .int .i64 sk]) ?_ rfl ⟨_, by rw [HKE.out], ?_, ?_⟩
          · simp (maxDischargeDepth := 9) [results, Try.results24, go_sem, *]
          · rw [HDE.out]; exact (((HH.out.setJ (by omega) _ _).setJ (by omega) _ _).setJ (by omega) _ _).monoJ (by omega)
          · exact below_sa3 HB6.out (by omega) _ _ _
    · have h1 : ¬ (m : Int) < (3 : Int) := by omega
      obtain rfl : m = 3 := by omega
      have hdd := HI.out.dk (by omega)
      have HK0 : Hid (rpK d s x = 0) := by show _ = _; rw [HKK.out, if_pos hdd]; exact rpC_ok HI.out.ok
      have HD0 : Hid (rpD d s x = rpN OL d 3) := by show _ = _; rw [HDD.out, if_pos hdd, if_pos HK0.out]
      have HOE := HOW.out (by omega)
      obtain ⟨dm, HDM⟩ : ∃ dm, Hid (rpN OL d 3 = dm) := ⟨_, rfl⟩
      rw [HDM.out] at HOE
      have HOE2 : Hid (DkOwn wr w3.heap.size (.agg #[.slice b1 bn1 bc1, .slice b2 bn2 bc2, .slice b3 bn3 bc3]) dm) := HOE
      clear HOE hbel
      go_wp2_with fail
      refine bodyPost_ret (v := .tuple #[.agg #[.slice b1 bn1 bc1, .slice b2 bn2 bc2, .slice b3 bn3 bc3], .int .i64 0]) ?_ rfl ⟨_, by rw [HK0.out], ?_, ?_⟩
      · simp (maxDischargeDepth := 9) [results, Try.results24, go_sem, *]
      · rw [HD0.out, HDM.out]; exact (((HOE2.out.setJ (by omega) _ _).setJ (by omega) _ _).setJ (by omega) _ _).monoJ (by omega)
      · exact below_sa3 HBW.out (by omega) _ _ _
theorem impl_Replace {v : Value} {d : DK} (s x : ByteArray) (w : World) (h : DkRow w v d) (hl : DkLil d) (hs : s.size ≤ 1048576) (hx : x.size ≤ 1048576) :
    Calls Try.prog 24 #[v, .string s, .string x] w fun e w' => ∃ v', e = .returned (.tuple #[v', .int .i64 (rpK d s x)]) ∧ DkOwn w' w.heap.size v' (rpD d s x) ∧ Below w.heap.size w w' := by
  cases hb : hasB (newS s) d.live with
  | false => exact impl_Replace_2 s x w h hl hs hx hb
  | true => exact impl_Replace_3 s x w h hl hs hx hb
end Go.Proofs.Ytanjlpgdmnapdaa
