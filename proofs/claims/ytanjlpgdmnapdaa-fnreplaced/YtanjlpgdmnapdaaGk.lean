import Derived.Test.YtanjlpgdmnapdaaDkD
namespace Go.Proofs.Ytanjlpgdmnapdaa
open Go.RowKit Go.Maps
set_option linter.unusedSimpArgs false
set_option linter.unusedVariables false

set_option maxRecDepth 100000 in
set_option maxHeartbeats 8000000 in
theorem impl_copied {v : Value} {d : DK} (w : World) (h : DkRow w v d) (hl : DkLil d) :
    Calls Try.prog 57 #[v] w fun e w' => ∃ v', e = .returned v' ∧ DkOwn w' w.heap.size v' d ∧ Below w.heap.size w w' := by
  have HR : Hid (DkRow w v d) := h
  have HL : Hid (DkLil d) := hl
  obtain ⟨A1, c1, A2, c2, A3, c3, rfl, r1, r2, r3, z1, z2, z3⟩ := h
  have HR1 : Hid (FiRow w A1 d.live) := r1
  have HR2 : Hid (FiRow w A2 d.safe) := r2
  have HR3 : Hid (DpRow w A3 d.ops) := r3
  have HZ1 : Hid (A1 = none → c1 = 0) := z1
  have HZ2 : Hid (A2 = none → c2 = 0) := z2
  have HZ3 : Hid (A3 = none → c3 = 0) := z3
  obtain ⟨n1, HN1⟩ : ∃ n1, Hid (d.live.length = n1) := ⟨_, rfl⟩
  obtain ⟨n2, HN2⟩ : ∃ n2, Hid (d.safe.length = n2) := ⟨_, rfl⟩
  obtain ⟨n3, HN3⟩ : ∃ n3, Hid (d.ops.length = n3) := ⟨_, rfl⟩
  have hn1 : n1 ≤ 1048576 := by rw [← HN1.out]; exact hl.n1
  have hn2 : n2 ≤ 1048576 := by rw [← HN2.out]; exact hl.n2
  have hn3 : n3 ≤ 1048576 := by rw [← HN3.out]; exact hl.n3
  rw [HN1.out, HN2.out, HN3.out] at HR ⊢
  clear r1 r2 r3 z1 z2 z3 hl
  obtain ⟨w1, HW1⟩ : ∃ w1, Hid (((w.alloc (.cells #[.slice A1 n1 c1, .slice A2 n2 c2, .slice A3 n3 c3] 27)).alloc (.cells #[.slice none 0 0, .slice none 0 0, .slice none 0 0] 27)) = w1) := ⟨_, rfl⟩
  have HB1 : Hid (Below w.heap.size w w1) := by rw [← HW1.out]; show Below _ _ _; go_grown
  have z1 : w1.heap.size = w.heap.size + 2 := by rw [← HW1.out]; simp
  have k0 : w1.cell? ⟨w.heap.size, 0, none⟩ = some (.slice A1 n1 c1) := by rw [← HW1.out]; go_simp
  have k1 : w1.cell? ⟨w.heap.size, 1, none⟩ = some (.slice A2 n2 c2) := by rw [← HW1.out]; go_simp
  have k2 : w1.cell? ⟨w.heap.size, 2, none⟩ = some (.slice A3 n3 c3) := by rw [← HW1.out]; go_simp
  have p0 : w1.cell? ⟨w.heap.size + 1, 0, none⟩ = some (.slice none 0 0) := by rw [← HW1.out]; go_simp
  have p1 : w1.cell? ⟨w.heap.size + 1, 1, none⟩ = some (.slice none 0 0) := by rw [← HW1.out]; go_simp
  have p2 : w1.cell? ⟨w.heap.size + 1, 2, none⟩ = some (.slice none 0 0) := by rw [← HW1.out]; go_simp
  have pf : ∀ o, w1.frozen? ⟨w.heap.size + 1, o, none⟩ = false := fun o => by rw [← HW1.out]; go_simp
  have HZ : Hid (w1.heap.size = w.heap.size + 2) := z1
  have hl1 : w.heap.size < w1.heap.size := by omega
  have hl2 : w.heap.size + 1 < w1.heap.size := by omega
  clear z1
  go_enter Try.func57, Try.ntmps57
  go_wp2_with fail
  rw [HW1.out]
  refine wp_region_held_drew (S := (fun w' => (∀ bq oq, bq < w.heap.size + 1 → w'.cell? ⟨bq, oq, none⟩ = w1.cell? ⟨bq, oq, none⟩) ∧ w.heap.size + 1 ≤ w'.heap.size ∧ Below (w.heap.size + 1) w1 w')) (by kernel_rfl) (sc_of (by omega) (by go_grown)) (fun hHeld => ?_)
  refine wpAnyH_take (i := 0) (v := ?_) rfl (by kernel_rfl) (by kernel_rfl) (by kernel_rfl) (fun _ _ _ h => h) (Or.inl ⟨by rfl, ?_⟩) (by assumption) ?_
  rotate_left
  · (intro wq hSw; (try dsimp only at hSw); go_simp <;> with_reducible rfl)
  try simp only [Act.put, List.getElem_toArray, List.getElem_cons_zero, List.getElem_cons_succ, List.setIfInBounds_toArray, List.set_cons_zero, List.set_cons_succ]
  refine wpAnyH_take (i := 1) (v := ?_) rfl (by kernel_rfl) (by kernel_rfl) (by kernel_rfl) (fun _ _ _ h => h) (Or.inl ⟨by rfl, ?_⟩) (by assumption) ?_
  rotate_left
  · (intro wq hSw; (try dsimp only at hSw); go_simp <;> with_reducible rfl)
  try simp only [Act.put, List.getElem_toArray, List.getElem_cons_zero, List.getElem_cons_succ, List.setIfInBounds_toArray, List.set_cons_zero, List.set_cons_succ]
  refine wpAnyH_take (i := 3) (v := ?_) rfl (by kernel_rfl) (by kernel_rfl) (by kernel_rfl) (fun _ _ _ h => h) (Or.inl ⟨by rfl, ?_⟩) (by assumption) ?_
  rotate_left
  · (intro wq hSw; (try dsimp only at hSw); go_simp <;> with_reducible rfl)
  try simp only [Act.put, List.getElem_toArray, List.getElem_cons_zero, List.getElem_cons_succ, List.setIfInBounds_toArray, List.set_cons_zero, List.set_cons_succ]
  refine wpAnyH_take (i := 4) (v := ?_) rfl (by kernel_rfl) (by kernel_rfl) (by kernel_rfl) (fun _ _ _ h => h) (Or.inl ⟨by rfl, ?_⟩) (by assumption) ?_
  rotate_left
  · (intro wq hSw; (try dsimp only at hSw); go_simp <;> with_reducible rfl)
  try simp only [Act.put, List.getElem_toArray, List.getElem_cons_zero, List.getElem_cons_succ, List.setIfInBounds_toArray, List.set_cons_zero, List.set_cons_succ]
  refine wpAnyH_take (i := 6) (v := ?_) rfl (by kernel_rfl) (by kernel_rfl) (by kernel_rfl) (fun _ _ _ h => h) (Or.inl ⟨by rfl, ?_⟩) (by assumption) ?_
  rotate_left
  · (intro wq hSw; (try dsimp only at hSw); go_simp <;> with_reducible rfl)
  try simp only [Act.put, List.getElem_toArray, List.getElem_cons_zero, List.getElem_cons_succ, List.setIfInBounds_toArray, List.set_cons_zero, List.set_cons_succ]
  refine wpAnyH_take (i := 7) (v := ?_) rfl (by kernel_rfl) (by kernel_rfl) (by kernel_rfl) (fun _ _ _ h => h) (Or.inl ⟨by rfl, ?_⟩) (by assumption) ?_
  rotate_left
  · (intro wq hSw; (try dsimp only at hSw); go_simp <;> with_reducible rfl)
  try simp only [Act.put, List.getElem_toArray, List.getElem_cons_zero, List.getElem_cons_succ, List.setIfInBounds_toArray, List.set_cons_zero, List.set_cons_succ]
  refine wpAnyH_ready (rs := [2]) (by kernel_rfl) (by simp) (AllReadyH.cons rfl (fun Kq hKq => ?_) AllReadyH.nil)
  go_simp
  refine (listCopy_fi _ (HR1.out.below (Below.trans HB1.out (Below.mono (B := w1.heap.size) (by go_grown) HB1.out.size))) HN1.out HZ1.out (by omega)).mono ?_
  rintro e v0 ⟨A0', e0, rfl, ho0, hz0, hb⟩
  have HO0 : Hid (v0.ownsRow w1.heap.size 75 2 (.slice A0' n1 e0) n1 (flat fiL d.live)) := own_mono ho0 (by simp)
  have hk0 : Below w1.heap.size w1 v0 := Below.trans (by go_grown) (hb.mono (by simp))
  have hs0 := hk0.size
  have hkk0 : Below (w.heap.size + 1) w1 v0 := hk0.mono (by omega)
  clear ho0 hz0 hb
  refine hKq.out _ _ ?_ (fun hHeld => ?_)
  · exact sc_of (by omega) (by go_grown)
  clear hKq Kq
  try simp only [Act.put, List.getElem_toArray, List.getElem_cons_zero, List.getElem_cons_succ, List.setIfInBounds_toArray, List.set_cons_zero, List.set_cons_succ]
  refine wpAnyH_ready (rs := [5]) (by kernel_rfl) (by simp) (AllReadyH.cons rfl (fun Kq hKq => ?_) AllReadyH.nil)
  go_simp
  refine (listCopy_fi _ (HR2.out.below (Below.trans HB1.out (Below.mono (B := w1.heap.size) hk0 HB1.out.size))) HN2.out HZ2.out (by omega)).mono ?_
  rintro e v1 ⟨A1', e1, rfl, ho1, hz1, hb⟩
  have HO1 : Hid (v1.ownsRow w1.heap.size 75 2 (.slice A1' n2 e1) n2 (flat fiL d.safe)) := own_mono ho1 hs0
  have hk1 : Below w1.heap.size w1 v1 := Below.trans hk0 (hb.mono hs0)
  have hs1 := hk1.size
  have hkk1 : Below (w.heap.size + 1) w1 v1 := hk1.mono (by omega)
  have HNE : Hid ((Value.slice A0' n1 e0).ownBlock = none ∨ (Value.slice A0' n1 e0).ownBlock ≠ (Value.slice A1' n2 e1).ownBlock) := own_ne HO0.out ho1 (Nat.le_refl _)
  have HO0_1 : Hid (v1.ownsRow w1.heap.size 75 2 (.slice A0' n1 e0) n1 (flat fiL d.live)) := own_below HO0.out hb
  clear ho1 hz1 hb
  refine hKq.out _ _ ?_ (fun hHeld => ?_)
  · exact sc_of (by omega) (by go_grown)
  clear hKq Kq
  try simp only [Act.put, List.getElem_toArray, List.getElem_cons_zero, List.getElem_cons_succ, List.setIfInBounds_toArray, List.set_cons_zero, List.set_cons_succ]
  refine wpAnyH_ready (rs := [8]) (by kernel_rfl) (by simp) (AllReadyH.cons rfl (fun Kq hKq => ?_) AllReadyH.nil)
  go_simp
  refine (listCopy_dp _ (HR3.out.below (Below.trans HB1.out (Below.mono (B := w1.heap.size) hk1 HB1.out.size))) HN3.out HZ3.out (by omega)).mono ?_
  rintro e v2 ⟨A2', e2, rfl, ho2, hz2, hb⟩
  have HO2 : Hid (v2.ownsRow w1.heap.size 36 4 (.slice A2' n3 e2) n3 (flat dpL d.ops)) := own_mono ho2 hs1
  have hk2 : Below w1.heap.size w1 v2 := Below.trans hk1 (hb.mono hs1)
  have hs2 := hk2.size
  have hkk2 : Below (w.heap.size + 1) w1 v2 := hk2.mono (by omega)
  have HO0_2 : Hid (v2.ownsRow w1.heap.size 75 2 (.slice A0' n1 e0) n1 (flat fiL d.live)) := own_below HO0_1.out hb
  have HO1_2 : Hid (v2.ownsRow w1.heap.size 75 2 (.slice A1' n2 e1) n2 (flat fiL d.safe)) := own_below HO1.out hb
  clear ho2 hz2 hb
  refine hKq.out _ _ ?_ (fun hHeld => ?_)
  · exact sc_of (by omega) (by go_grown)
  clear hKq Kq
  try simp only [Act.put, List.getElem_toArray, List.getElem_cons_zero, List.getElem_cons_succ, List.setIfInBounds_toArray, List.set_cons_zero, List.set_cons_succ]
  have pp0 : v2.cell? ⟨w.heap.size + 1, 0, none⟩ = some (.slice none 0 0) := (hk2.cell (p := ⟨w.heap.size + 1, 0, none⟩) hl2).trans p0
  have pp1 : v2.cell? ⟨w.heap.size + 1, 1, none⟩ = some (.slice none 0 0) := (hk2.cell (p := ⟨w.heap.size + 1, 1, none⟩) hl2).trans p1
  have pp2 : v2.cell? ⟨w.heap.size + 1, 2, none⟩ = some (.slice none 0 0) := (hk2.cell (p := ⟨w.heap.size + 1, 2, none⟩) hl2).trans p2
  have ppf : ∀ o, v2.frozen? ⟨w.heap.size + 1, o, none⟩ = false := fun o => (hk2.frozen (p := ⟨w.heap.size + 1, o, none⟩) hl2).trans (pf o)
  have mm : w.heap.size + 1 < v2.heap.size := by omega
  refine wpAnyH_take (i := 9) (v := ?_) rfl (by kernel_rfl) (by kernel_rfl) (by kernel_rfl) (fun _ _ _ h => h) (Or.inl ⟨by rfl, ?_⟩) (by assumption) ?_
  rotate_left
  · (intro wq hSw; (try dsimp only at hSw); go_simp <;> with_reducible rfl)
  try simp only [Act.put, List.getElem_toArray, List.getElem_cons_zero, List.getElem_cons_succ, List.setIfInBounds_toArray, List.set_cons_zero, List.set_cons_succ]
  refine wpAnyH_ready (rs := [10]) (by kernel_rfl) (by simp) (AllReadyH.cons rfl (fun Kq hKq => ?_) AllReadyH.nil)
  go_simp
  refine hKq.out _ _ ?_ (fun hHeld => ?_)
  · exact sc_of (by omega) (by go_grown)
  clear hKq Kq
  try simp only [Act.put, List.getElem_toArray, List.getElem_cons_zero, List.getElem_cons_succ, List.setIfInBounds_toArray, List.set_cons_zero, List.set_cons_succ]
  refine wpAnyH_done (by kernel_rfl) ?_ _
  clear hHeld
  go_wp2_with fail
  refine bodyPost_ret (v := .agg #[.slice A0' n1 e0, .slice A1' n2 e1, .slice A2' n3 e2]) ?_ rfl ⟨_, rfl, ⟨_, _, _, rfl, ?_, ?_, ?_, HNE.out⟩, ?_⟩
  · simp (maxDischargeDepth := 9) [results, Try.results57, go_sem, *]
  · rw [HN1.out]
    exact own_mono (ownSet (ownSet (ownSet HO0_2.out hl2 _ _) hl2 _ _) hl2 _ _) (by omega)
  · rw [HN2.out]
    exact own_mono (ownSet (ownSet (ownSet HO1_2.out hl2 _ _) hl2 _ _) hl2 _ _) (by omega)
  · rw [HN3.out]
    exact own_mono (ownSet (ownSet (ownSet HO2.out hl2 _ _) hl2 _ _) hl2 _ _) (by omega)
  · exact ((Below.setCell (Below.trans HB1.out (hk2.mono HB1.out.size)) (by show w.heap.size ≤ w.heap.size + 1; omega) _).setCell (by show w.heap.size ≤ w.heap.size + 1; omega) _).setCell (by show w.heap.size ≤ w.heap.size + 1; omega) _
end Go.Proofs.Ytanjlpgdmnapdaa
namespace Go.Proofs.Ytanjlpgdmnapdaa
open Go.RowKit Go.Maps
set_option linter.unusedSimpArgs false
set_option linter.unusedVariables false

/-- What an op does to a right disk. -/
def doK (d : DK) (x : DP) : Int := if doC x d.live = 0 ∧ 200 ≤ d.ops.length then 4 else doC x d.live
def acD (d : DK) (x : DP) : DK := if doK d x = 0 then ⟨doL x d.live, d.safe, d.ops ++ [x]⟩ else d
theorem disk_parts {d : DK} (h : diskB d = true) : filesB d.live = true ∧ filesB d.safe = true ∧ d.ops.length ≤ 200 := by
  simp only [diskB, Bool.and_eq_true, decide_eq_true_eq] at h
  exact ⟨h.1, h.2.1, h.2.2.1⟩
section
variable {ops : Array Oper} {rest : List Oper} {o : Oper} {a : Act} {Q : Exit → Act → World → Prop}
/-- 'append(list, op)' onto a row of ops that may lie anywhere. -/
theorem wpList_app_dp {W : World} (hgd : o.guard = none) (s x : Operand) (ho : o.op = .call { callee := .builtin .append, args := #[s, x], argTypes := #[25, 25] }) (B : Nat) (v : Value) (n : Nat) (xs : List Value) (hs : a.eval s = v)
    (hown : W.ownsRow B 36 4 v n xs) (f : DP) (hx : a.eval x = .slice (some ⟨W.heap.size, 0, none⟩) 1 1) (hn : n ≤ 1099511627776) (hB : B ≤ W.heap.size)
    (h : ∀ v' w', w'.ownsRow B 36 4 v' (n + 1) (xs ++ dpL f) → (W.alloc (.cells #[.int .i64 f.k, .string f.n, .string f.t, .string f.d] 36)).grownBy w' v.ownBlock → wpList Try.prog ops Q rest (a.put o.dst v') w') :
    wpList Try.prog ops Q (o :: rest) a (W.alloc (.cells #[.int .i64 f.k, .string f.n, .string f.t, .string f.d] 36)) := by
  obtain ⟨i0, hi, iz0, iz1, iz2⟩ := info_parts infoDp
  refine wpList_append_own _ hgd _ _ 25 ho B 36 i0 (.agg #[.int .i64 0, .string ⟨#[]⟩, .string ⟨#[]⟩, .string ⟨#[]⟩]) 4 56 Try.underlying25 hi iz0 iz1 iz2 rfl (by decide) v n xs hs (hown.alloc _) ⟨W.heap.size, 0, none⟩ 1 1 [.int .i64 f.k, .string f.n, .string f.t, .string f.d] hx rfl ?_ ?_ ?_ ?_ ?_ ?_
  · intro q u hq
    match q, hq with
    | 0, hq => simp at hq; subst hq; simp [Addr.add]
    | 1, hq => simp at hq; subst hq; simp [Addr.add]
    | 2, hq => simp at hq; subst hq; simp [Addr.add]
    | 3, hq => simp at hq; subst hq; simp [Addr.add]
  · intro u hu; simp at hu; rcases hu with rfl | rfl | rfl | rfl <;> rfl
  · unfold maxLen; omega
  · omega
  · simp; omega
  · intro v' w3 hown' hgrow _
    exact h v' w3 hown' hgrow
end
end Go.Proofs.Ytanjlpgdmnapdaa
