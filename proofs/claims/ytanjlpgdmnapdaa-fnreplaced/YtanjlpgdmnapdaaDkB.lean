import Derived.Test.YtanjlpgdmnapdaaDkA
import Derived.Test.YtanjlpgdmnapdaaGa
import Derived.Test.YtanjlpgdmnapdaaGb
namespace Go.Proofs.Ytanjlpgdmnapdaa
open Go.RowKit Go.Maps
set_option linter.unusedSimpArgs false
set_option linter.unusedVariables false

theorem own_of_block {W : World} {B g : Nat} {e : TypeId} {s : Nat} (hB : B ≤ g) (h : W.heap[g]? = some (.cells #[] e (0, 0))) : W.ownsRow B e s (.slice (some ⟨g, 0, none⟩) 0 0) 0 [] := by
  refine ⟨by simp, Or.inr ⟨g, 0, #[], rfl, hB, h, Nat.le_refl _, Nat.zero_le _, by simp, by simp⟩⟩
theorem blk_at {W : World} {o : Obj} {g : Nat} (hg : g = W.heap.size) : (W.alloc o).heap[g]? = some o := by subst hg; exact heap_alloc_new W o
theorem block_old {W : World} {g : Nat} {o o' : Obj} (h : W.heap[g]? = some o) : (W.alloc o').heap[g]? = some o := (Below.heap_alloc _ _ g (Array.getElem?_eq_some_iff.1 h).1).trans h
theorem keep_rows {α : Type} {k : Nat} {f : α → List Value} (hk : ∀ x, (f x).length = k) (h0 : 0 < k) {W W' : World} {g : Nat} {e : TypeId} {A : Option Addr} {L : List α} (h : RowAt k f W A L) (hg : W.grownBy W' (some g)) (hb : W.heap[g]? = some (.cells #[] e (0, 0))) : RowAt k f W' A L :=
  ⟨h.1, fun i x hx => by
    obtain ⟨b, o, e1, hl, hc⟩ := h.2 i x hx
    have hne : some b ≠ some g := fun e2 => by
      cases e2
      obtain ⟨v, hv⟩ : ∃ v, (f x)[0]? = some v := ⟨_, List.getElem?_eq_getElem (by rw [hk]; exact h0)⟩
      have h1 := hc 0 v hv
      rw [cell_of_row W g _ #[] e (0, 0) hb] at h1
      simp at h1
    exact ⟨b, o, e1, Nat.lt_of_lt_of_le hl hg.size, fun j v hv => hg.cell (a := ⟨b, _, none⟩) (hc j v hv) hne⟩⟩
theorem row_set1 {α : Type} {k : Nat} {f : α → List Value} {W : World} {A : Option Addr} {L : List α} {B g : Nat} (h : RowAt k f W A L) (hA : ∀ b o, A = some ⟨b, o, none⟩ → B ≤ b) (hg : g < B) (o : Nat) (u : Value) : RowAt k f (W.setCell ⟨g, o, none⟩ u) A L :=
  ⟨h.1, fun i x hx => by
    obtain ⟨b, o', e1, hl, hc⟩ := h.2 i x hx
    refine ⟨b, o', e1, by simpa using hl, fun j v hv => ?_⟩
    rw [World.cell?_setCell_other _ _ _ _ (fun e => by have h2 := hA b o' e1; have h3 := congrArg Addr.block e; simp only at h3; omega)]
    exact hc j v hv⟩
theorem set3 {α : Type} {k : Nat} {f : α → List Value} {W : World} {A : Option Addr} {L : List α} {B g : Nat} (h : RowAt k f W A L) (hA : ∀ b o, A = some ⟨b, o, none⟩ → B ≤ b) (hg : g < B) (u1 u2 u3 : Value) : RowAt k f (((W.setCell ⟨g, 0, none⟩ u1).setCell ⟨g, 1, none⟩ u2).setCell ⟨g, 2, none⟩ u3) A L :=
  row_set1 (row_set1 (row_set1 h hA hg 0 u1) hA hg 1 u2) hA hg 2 u3
theorem own_addr {W : World} {B : Nat} {e : TypeId} {s n c : Nat} {A : Option Addr} {xs : List Value} (h : W.ownsRow B e s (.slice A n c) n xs) : ∀ b o, A = some ⟨b, o, none⟩ → B ≤ b := by
  intro b o e1
  rcases h.2 with ⟨e2, _⟩ | ⟨g, cap, cur, e2, hb, _⟩
  · simp only [Value.slice.injEq] at e2; rw [e1] at e2; cases e2.1
  · simp only [Value.slice.injEq] at e2; rw [e1] at e2; cases e2.1; exact hb
theorem step_copy2_fi {W : World} {ops : Array Oper} {o : Oper} {a : Act} {K : Act → World → Prop} {Q : Exit → Act → World → Prop} {E : Prop} (hgd : o.guard = none) (s x : Operand) (ho : o.op = .call { callee := .builtin .append, args := #[s, x], argTypes := #[24, 24] }) (B g : Nat) (hB : B ≤ g) (hb : W.heap[g]? = some (.cells #[] 75 (0, 0))) (hs : a.eval s = .slice (some ⟨g, 0, none⟩) 0 0)
    {A : Option Addr} {n c : Nat} {L : List FI} (hx : a.eval x = .slice A n c) (hL : L.length = n) (h0 : A = none → c = 0) (hR : FiRow W A L) (hn : n ≤ 1073741824)
    (h : ∀ A' c' w', FiRow w' A' L → (∀ b o, A' = some ⟨b, o, none⟩ → B ≤ b) → (A' = none → c' = 0) → (∀ A L, FiRow W A L → FiRow w' A L) → (∀ A L, DpRow W A L → DpRow w' A L) → (∀ q o, W.heap[q]? = some o → q ≠ g → w'.heap[q]? = some o) → Below B W w' → K (a.put o.dst (.slice A' n c')) w') :
    if Region.wanted o (yielded ops a.tmps) = true then Oper.wp Try.prog o a W K Q else E := by
  have hgl : g < W.heap.size := (Array.getElem?_eq_some_iff.1 hb).1
  refine step_copy_fi hgd s x ho B (by omega) _ hs (own_of_block hB hb) hx hL h0 hR hn ?_
  intro A' c' w' h1 h2 h3
  have h3' : W.grownBy w' (some g) := h3
  exact h A' c' w' (RowAt.of_own fiL_len h1 hL) (own_addr h1) h2 (fun A L r => keep_rows fiL_len (by decide) r h3' hb) (fun A L r => keep_rows dpL_len (by decide) r h3' hb)
    (fun q o hq hne => (h3'.block q (Array.getElem?_eq_some_iff.1 hq).1 (fun e => hne (by cases e; rfl))).trans hq) ((Below.refl _ _).grown h3' (by omega) (fun q hq => by cases hq; exact hB))
theorem step_copy2_dp {W : World} {ops : Array Oper} {o : Oper} {a : Act} {K : Act → World → Prop} {Q : Exit → Act → World → Prop} {E : Prop} (hgd : o.guard = none) (s x : Operand) (ho : o.op = .call { callee := .builtin .append, args := #[s, x], argTypes := #[25, 25] }) (B g : Nat) (hB : B ≤ g) (hb : W.heap[g]? = some (.cells #[] 36 (0, 0))) (hs : a.eval s = .slice (some ⟨g, 0, none⟩) 0 0)
    {A : Option Addr} {n c : Nat} {L : List DP} (hx : a.eval x = .slice A n c) (hL : L.length = n) (h0 : A = none → c = 0) (hR : DpRow W A L) (hn : n ≤ 1073741824)
    (h : ∀ A' c' w', DpRow w' A' L → (∀ b o, A' = some ⟨b, o, none⟩ → B ≤ b) → (A' = none → c' = 0) → (∀ A L, FiRow W A L → FiRow w' A L) → (∀ A L, DpRow W A L → DpRow w' A L) → (∀ q o, W.heap[q]? = some o → q ≠ g → w'.heap[q]? = some o) → Below B W w' → K (a.put o.dst (.slice A' n c')) w') :
    if Region.wanted o (yielded ops a.tmps) = true then Oper.wp Try.prog o a W K Q else E := by
  have hgl : g < W.heap.size := (Array.getElem?_eq_some_iff.1 hb).1
  refine step_copy_dp hgd s x ho B (by omega) _ hs (own_of_block hB hb) hx hL h0 hR hn ?_
  intro A' c' w' h1 h2 h3
  have h3' : W.grownBy w' (some g) := h3
  exact h A' c' w' (RowAt.of_own dpL_len h1 hL) (own_addr h1) h2 (fun A L r => keep_rows fiL_len (by decide) r h3' hb) (fun A L r => keep_rows dpL_len (by decide) r h3' hb)
    (fun q o hq hne => (h3'.block q (Array.getElem?_eq_some_iff.1 hq).1 (fun e => hne (by cases e; rfl))).trans hq) ((Below.refl _ _).grown h3' (by omega) (fun q hq => by cases hq; exact hB))

theorem spec_Sync_region_head : True := trivial
set_option maxRecDepth 100000 in
set_option maxHeartbeats 8000000 in
theorem spec_Sync {v : Value} {d : DK} (w : World) (h : DkRow w v d) (hl : DkLil d) :
    Calls Try.prog 33 #[v] w fun e w' => ∃ v', e = .returned v' ∧ DkRow w' v' (syD d) ∧ Below w.heap.size w w' := by
  have HR : Hid (DkRow w v d) := h
  have HL : Hid (DkLil d) := hl
  obtain ⟨A1, c1, A2, c2, A3, c3, rfl, r1, r2, r3, z1, z2, z3⟩ := h
  have HR1 : Hid (FiRow w A1 d.live) := r1
  have HR2 : Hid (FiRow w A2 d.safe) := r2
  have HR3 : Hid (DpRow w A3 d.ops) := r3
  have HZ1 : Hid (A1 = none → c1 = 0) := z1
  have HZ2 : Hid (A2 = none → c2 = 0) := z2
  have HZ3 : Hid (A3 = none → c3 = 0) := z3
  obtain ⟨n1, HN1⟩ : ∃ n1, Hid (d.live.length = n1) := ⟨_, rfl⟩
  obtain ⟨n2, HN2⟩ : ∃ n2, Hid (d.safe.length = n2) := ⟨_, rfl⟩
  obtain ⟨n3, HN3⟩ : ∃ n3, Hid (d.ops.length = n3) := ⟨_, rfl⟩
  have hn1 : n1 ≤ 1048576 := by rw [← HN1.out]; exact hl.n1
  have hn2 : n2 ≤ 1048576 := by rw [← HN2.out]; exact hl.n2
  have hn3 : n3 ≤ 1048576 := by rw [← HN3.out]; exact hl.n3
  rw [HN1.out, HN2.out, HN3.out] at HR ⊢
  clear r1 r2 r3 z1 z2 z3 hl
  obtain ⟨rr, HRR⟩ : ∃ rr, Hid (diskB d = rr) := ⟨_, rfl⟩
  cases rr
  · have HE : Hid (syD d = dk0) := by show _ = _; rw [syD, HRR.out]; rfl
    rw [HE.out]
    go_enter Try.func33, Try.ntmps33
    go_wp2_with fail
    refine (spec_DiskOk _ (HR.out.below (by go_grown)) HL.out).mono ?_
    rintro e w1 ⟨rfl, hb⟩
    rw [HRR.out]
    have p0 := cy hb (b := w.heap.size + 1) (o := 0) (x := .slice none 0 0) (by go_simp)
    have p1 := cy hb (b := w.heap.size + 1) (o := 1) (x := .slice none 0 0) (by go_simp)
    have p2 := cy hb (b := w.heap.size + 1) (o := 2) (x := .slice none 0 0) (by go_simp)
    have pf : ∀ o, w1.frozen? ⟨w.heap.size + 1, o, none⟩ = false := fun o => by
      rw [hb.frozen (p := ⟨w.heap.size + 1, o, none⟩) (by simp)]
      go_simp
    have HB1 : Hid (Below w.heap.size w w1) := Below.trans (by go_grown) (hb.mono (by simp; omega))
    clear hb
    go_wp2_with fail
    refine bodyPost_ret (v := .agg #[.slice none 0 0, .slice none 0 0, .slice none 0 0]) ?_ rfl ⟨_, rfl, own_dk0.row (B := 0), ?_⟩
    · simp (maxDischargeDepth := 9) [results, Try.results33, go_sem, *]
    · exact ((HB1.out.setCell (by show w.heap.size ≤ w.heap.size + 1; omega) _).setCell (by show w.heap.size ≤ w.heap.size + 1; omega) _).setCell (by show w.heap.size ≤ w.heap.size + 1; omega) _
  · have HE : Hid (syD d = ⟨d.live, d.live, []⟩) := by show _ = _; rw [syD, HRR.out]; rfl
    rw [HE.out]
    go_enter Try.func33, Try.ntmps33
    go_wp2_with fail
    refine (spec_DiskOk _ (HR.out.below (by go_grown)) HL.out).mono ?_
    rintro e w1 ⟨rfl, hb⟩
    rw [HRR.out]
    have k0 := cy hb (b := w.heap.size) (o := 0) (x := .slice A1 n1 c1) (by go_simp)
    have p0 := cy hb (b := w.heap.size + 1) (o := 0) (x := .slice none 0 0) (by go_simp)
    have p1 := cy hb (b := w.heap.size + 1) (o := 1) (x := .slice none 0 0) (by go_simp)
    have p2 := cy hb (b := w.heap.size + 1) (o := 2) (x := .slice none 0 0) (by go_simp)
    have pf : ∀ o, w1.frozen? ⟨w.heap.size + 1, o, none⟩ = false := fun o => by
      rw [hb.frozen (p := ⟨w.heap.size + 1, o, none⟩) (by simp)]
      go_simp
    have HB1 : Hid (Below w.heap.size w w1) := Below.trans (by go_grown) (hb.mono (by simp; omega))
    have hz1 : w.heap.size + 2 ≤ w1.heap.size := by simpa using hb.size
    clear hb
    have hl1 : w.heap.size < w1.heap.size := by omega
    have hl2 : w.heap.size + 1 < w1.heap.size := by omega
    go_wp2_with fail
    refine wp_region_held_drew (S := (fun w' => (∀ bq oq, bq < w.heap.size + 1 → w'.cell? ⟨bq, oq, none⟩ = w1.cell? ⟨bq, oq, none⟩) ∧ w.heap.size + 1 ≤ w'.heap.size ∧ Below (w.heap.size + 1) w1 w')) (by kernel_rfl) (sc_of (by omega) (by go_grown)) (fun hHeld => ?_)
    refine wpAnyH_take (i := 1) (v := ?_) rfl (by kernel_rfl) (by kernel_rfl) (by kernel_rfl) (fun _ _ _ h => h) (Or.inl ⟨by rfl, ?_⟩) (by assumption) ?_
    rotate_left
    · (intro wq hSw; (try dsimp only at hSw); go_simp <;> with_reducible rfl)
    try simp only [Act.put, List.getElem_toArray, List.getElem_cons_zero, List.getElem_cons_succ, List.setIfInBounds_toArray, List.set_cons_zero, List.set_cons_succ]
    refine wpAnyH_take (i := 2) (v := ?_) rfl (by kernel_rfl) (by kernel_rfl) (by kernel_rfl) (fun _ _ _ h => h) (Or.inl ⟨by rfl, ?_⟩) (by assumption) ?_
    rotate_left
    · (intro wq hSw; (try dsimp only at hSw); go_simp <;> with_reducible rfl)
    try simp only [Act.put, List.getElem_toArray, List.getElem_cons_zero, List.getElem_cons_succ, List.setIfInBounds_toArray, List.set_cons_zero, List.set_cons_succ]
    refine wpAnyH_take (i := 5) (v := ?_) rfl (by kernel_rfl) (by kernel_rfl) (by kernel_rfl) (fun _ _ _ h => h) (Or.inl ⟨by rfl, ?_⟩) (by assumption) ?_
    rotate_left
    · (intro wq hSw; (try dsimp only at hSw); go_simp <;> with_reducible rfl)
    try simp only [Act.put, List.getElem_toArray, List.getElem_cons_zero, List.getElem_cons_succ, List.setIfInBounds_toArray, List.set_cons_zero, List.set_cons_succ]
    refine wpAnyH_take (i := 6) (v := ?_) rfl (by kernel_rfl) (by kernel_rfl) (by kernel_rfl) (fun _ _ _ h => h) (Or.inl ⟨by rfl, ?_⟩) (by assumption) ?_
    rotate_left
    · (intro wq hSw; (try dsimp only at hSw); go_simp <;> with_reducible rfl)
    try simp only [Act.put, List.getElem_toArray, List.getElem_cons_zero, List.getElem_cons_succ, List.setIfInBounds_toArray, List.set_cons_zero, List.set_cons_succ]
    refine wpAnyH_ready (rs := [0, 4]) (by kernel_rfl) (by simp) (AllReadyH.cons rfl (fun Kq hKq => ?_) (AllReadyH.cons rfl (fun Kq hKq => ?_) (AllReadyH.nil)))
    · go_simp
      refine hKq.out _ _ ?_ (fun hHeld => ?_)
      · exact sc_of (by omega) (by go_grown)
      clear hKq Kq
      try simp only [Act.put, List.getElem_toArray, List.getElem_cons_zero, List.getElem_cons_succ, List.setIfInBounds_toArray, List.set_cons_zero, List.set_cons_succ]
      refine wpAnyH_ready (rs := [3, 4]) (by kernel_rfl) (by simp) (AllReadyH.cons rfl (fun Kq hKq => ?_) (AllReadyH.cons rfl (fun Kq hKq => ?_) (AllReadyH.nil)))
      · refine step_copy2_fi (by rfl) _ _ (by rfl) w1.heap.size _ ?b2 ?b3 (by rfl) (by rfl) HN1.out HZ1.out ?b4 (by omega) ?_
        case b2 => first | (simp; done) | omega | (simp; omega)
        case b3 => first | (refine blk_at ?_; simp; done) | (refine block_old (blk_at ?_); simp; done) | (refine block_old (block_old (blk_at ?_)); simp; done)
        case b4 => exact HR1.out.below (Below.trans HB1.out (Below.mono (B := w1.heap.size) (by go_grown) HB1.out.size))
        intro A0' e0 v0 hF0 hA0 hz0 hkf0 hkd0 hq0 hw0
        have HF0 : Hid (FiRow v0 A0' d.live) := hF0
        have HA0 : Hid (∀ b o, A0' = some ⟨b, o, none⟩ → w1.heap.size ≤ b) := hA0
        have HY0 : Hid (A0' = none → e0 = 0) := hz0
        have hk0 : Below w1.heap.size w1 v0 := Below.trans (by go_grown) hw0
        have hs0 := hk0.size
        have hkk0 : Below (w.heap.size + 1) w1 v0 := hk0.mono (by omega)
        clear hF0 hA0 hz0 hkf0 hkd0 hw0
        refine hKq.out _ _ ?_ (fun hHeld => ?_)
        · exact sc_of (by omega) (by go_grown)
        clear hKq Kq
        try simp only [Act.put, List.getElem_toArray, List.getElem_cons_zero, List.getElem_cons_succ, List.setIfInBounds_toArray, List.set_cons_zero, List.set_cons_succ]
        refine wpAnyH_ready (rs := [4]) (by kernel_rfl) (by simp) (AllReadyH.cons rfl (fun Kq hKq => ?_) (AllReadyH.nil))
        go_simp
        refine hKq.out _ _ ?_ (fun hHeld => ?_)
        · exact sc_of (by omega) (by go_grown)
        clear hKq Kq
        try simp only [Act.put, List.getElem_toArray, List.getElem_cons_zero, List.getElem_cons_succ, List.setIfInBounds_toArray, List.set_cons_zero, List.set_cons_succ]
        refine wpAnyH_ready (rs := [7]) (by kernel_rfl) (by simp) (AllReadyH.cons rfl (fun Kq hKq => ?_) (AllReadyH.nil))
        refine step_copy2_fi (by rfl) _ _ (by rfl) w1.heap.size _ ?b2 ?b3 (by rfl) (by rfl) HN1.out HZ1.out ?b4 (by omega) ?_
        case b2 => first | (simp; done) | omega | (simp; omega)
        case b3 => first | (refine blk_at ?_; simp; done) | (refine block_old (blk_at ?_); simp; done) | (refine block_old (block_old (blk_at ?_)); simp; done) | (refine hq0 _ _ ?_ ?_ <;> first | (first | (refine blk_at ?_; simp; done) | (refine block_old (blk_at ?_); simp; done) | (refine block_old (block_old (blk_at ?_)); simp; done)) | (simp; done) | (simp; omega) | omega) | (refine block_old ?_; (refine hq0 _ _ ?_ ?_ <;> first | (first | (refine blk_at ?_; simp; done) | (refine block_old (blk_at ?_); simp; done) | (refine block_old (block_old (blk_at ?_)); simp; done)) | (simp; done) | (simp; omega) | omega)) | (refine block_old (block_old ?_); (refine hq0 _ _ ?_ ?_ <;> first | (first | (refine blk_at ?_; simp; done) | (refine block_old (blk_at ?_); simp; done) | (refine block_old (block_old (blk_at ?_)); simp; done)) | (simp; done) | (simp; omega) | omega))
        case b4 => exact HR1.out.below (Below.trans HB1.out (Below.mono (B := w1.heap.size) (by go_grown) HB1.out.size))
        intro A1' e1 v1 hF1 hA1 hz1 hkf1 hkd1 hq1 hw1
        have HF1 : Hid (FiRow v1 A1' d.live) := hF1
        have HA1 : Hid (∀ b o, A1' = some ⟨b, o, none⟩ → w1.heap.size ≤ b) := hA1
        have HY1 : Hid (A1' = none → e1 = 0) := hz1
        have hk1 : Below w1.heap.size w1 v1 := Below.trans (by go_grown) hw1
        have hs1 := hk1.size
        have hkk1 : Below (w.heap.size + 1) w1 v1 := hk1.mono (by omega)
        have HF0_1 : Hid (FiRow v1 A0' d.live) := hkf1 _ _ (HF0.out.below (by go_grown))
        clear hF1 hA1 hz1 hkf1 hkd1 hw1
        refine hKq.out _ _ ?_ (fun hHeld => ?_)
        · exact sc_of (by omega) (by go_grown)
        clear hKq Kq
        try simp only [Act.put, List.getElem_toArray, List.getElem_cons_zero, List.getElem_cons_succ, List.setIfInBounds_toArray, List.set_cons_zero, List.set_cons_succ]
        have pp0 : v1.cell? ⟨w.heap.size + 1, 0, none⟩ = some (.slice none 0 0) := (hk1.cell (p := ⟨w.heap.size + 1, 0, none⟩) hl2).trans p0
        have pp1 : v1.cell? ⟨w.heap.size + 1, 1, none⟩ = some (.slice none 0 0) := (hk1.cell (p := ⟨w.heap.size + 1, 1, none⟩) hl2).trans p1
        have pp2 : v1.cell? ⟨w.heap.size + 1, 2, none⟩ = some (.slice none 0 0) := (hk1.cell (p := ⟨w.heap.size + 1, 2, none⟩) hl2).trans p2
        have ppf : ∀ o, v1.frozen? ⟨w.heap.size + 1, o, none⟩ = false := fun o => (hk1.frozen (p := ⟨w.heap.size + 1, o, none⟩) hl2).trans (pf o)
        have mm : w.heap.size + 1 < v1.heap.size := by omega
        refine wpAnyH_take (i := 8) (v := ?_) rfl (by kernel_rfl) (by kernel_rfl) (by kernel_rfl) (fun _ _ _ h => h) (Or.inl ⟨by rfl, ?_⟩) (by assumption) ?_
        rotate_left
        · (intro wq hSw; (try dsimp only at hSw); go_simp <;> with_reducible rfl)
        try simp only [Act.put, List.getElem_toArray, List.getElem_cons_zero, List.getElem_cons_succ, List.setIfInBounds_toArray, List.set_cons_zero, List.set_cons_succ]
        refine wpAnyH_ready (rs := [9]) (by kernel_rfl) (by simp) (AllReadyH.cons rfl (fun Kq hKq => ?_) AllReadyH.nil)
        go_simp
        refine hKq.out _ _ ?_ (fun hHeld => ?_)
        · exact sc_of (by omega) (by go_grown)
        clear hKq Kq
        try simp only [Act.put, List.getElem_toArray, List.getElem_cons_zero, List.getElem_cons_succ, List.setIfInBounds_toArray, List.set_cons_zero, List.set_cons_succ]
        refine wpAnyH_done (by kernel_rfl) ?_ _
        clear hHeld
        go_wp2_with fail
        refine bodyPost_ret (v := .agg #[(.slice A0' n1 e0), (.slice A1' n1 e1), (.slice none 0 0)]) ?_ rfl ⟨_, rfl, ?_, ?_⟩
        · simp (maxDischargeDepth := 9) [results, Try.results33, go_sem, *]
        · exact ⟨A0', e0, A1', e1, none, 0, by rw [HN1.out]; rfl, set3 HF0_1.out HA0.out hl2 _ _ _, set3 HF1.out HA1.out hl2 _ _ _, ⟨Nat.zero_le _, fun i x hx => by simp at hx⟩, HY0.out, HY1.out, fun _ => rfl⟩
        · exact ((Below.setCell (Below.trans HB1.out (hk1.mono HB1.out.size)) (by show w.heap.size ≤ w.heap.size + 1; omega) _).setCell (by show w.heap.size ≤ w.heap.size + 1; omega) _).setCell (by show w.heap.size ≤ w.heap.size + 1; omega) _
      · go_simp
        refine hKq.out _ _ ?_ (fun hHeld => ?_)
        · exact sc_of (by omega) (by go_grown)
        clear hKq Kq
        try simp only [Act.put, List.getElem_toArray, List.getElem_cons_zero, List.getElem_cons_succ, List.setIfInBounds_toArray, List.set_cons_zero, List.set_cons_succ]
        refine wpAnyH_ready (rs := [3]) (by kernel_rfl) (by simp) (AllReadyH.cons rfl (fun Kq hKq => ?_) (AllReadyH.nil))
        refine step_copy2_fi (by rfl) _ _ (by rfl) w1.heap.size _ ?b2 ?b3 (by rfl) (by rfl) HN1.out HZ1.out ?b4 (by omega) ?_
        case b2 => first | (simp; done) | omega | (simp; omega)
        case b3 => first | (refine blk_at ?_; simp; done) | (refine block_old (blk_at ?_); simp; done) | (refine block_old (block_old (blk_at ?_)); simp; done)
        case b4 => exact HR1.out.below (Below.trans HB1.out (Below.mono (B := w1.heap.size) (by go_grown) HB1.out.size))
        intro A0' e0 v0 hF0 hA0 hz0 hkf0 hkd0 hq0 hw0
        have HF0 : Hid (FiRow v0 A0' d.live) := hF0
        have HA0 : Hid (∀ b o, A0' = some ⟨b, o, none⟩ → w1.heap.size ≤ b) := hA0
        have HY0 : Hid (A0' = none → e0 = 0) := hz0
        have hk0 : Below w1.heap.size w1 v0 := Below.trans (by go_grown) hw0
        have hs0 := hk0.size
        have hkk0 : Below (w.heap.size + 1) w1 v0 := hk0.mono (by omega)
        clear hF0 hA0 hz0 hkf0 hkd0 hw0
        refine hKq.out _ _ ?_ (fun hHeld => ?_)
        · exact sc_of (by omega) (by go_grown)
        clear hKq Kq
        try simp only [Act.put, List.getElem_toArray, List.getElem_cons_zero, List.getElem_cons_succ, List.setIfInBounds_toArray, List.set_cons_zero, List.set_cons_succ]
        refine wpAnyH_ready (rs := [7]) (by kernel_rfl) (by simp) (AllReadyH.cons rfl (fun Kq hKq => ?_) (AllReadyH.nil))
        refine step_copy2_fi (by rfl) _ _ (by rfl) w1.heap.size _ ?b2 ?b3 (by rfl) (by rfl) HN1.out HZ1.out ?b4 (by omega) ?_
        case b2 => first | (simp; done) | omega | (simp; omega)
        case b3 => first | (refine blk_at ?_; simp; done) | (refine block_old (blk_at ?_); simp; done) | (refine block_old (block_old (blk_at ?_)); simp; done) | (refine hq0 _ _ ?_ ?_ <;> first | (first | (refine blk_at ?_; simp; done) | (refine block_old (blk_at ?_); simp; done) | (refine block_old (block_old (blk_at ?_)); simp; done)) | (simp; done) | (simp; omega) | omega) | (refine block_old ?_; (refine hq0 _ _ ?_ ?_ <;> first | (first | (refine blk_at ?_; simp; done) | (refine block_old (blk_at ?_); simp; done) | (refine block_old (block_old (blk_at ?_)); simp; done)) | (simp; done) | (simp; omega) | omega)) | (refine block_old (block_old ?_); (refine hq0 _ _ ?_ ?_ <;> first | (first | (refine blk_at ?_; simp; done) | (refine block_old (blk_at ?_); simp; done) | (refine block_old (block_old (blk_at ?_)); simp; done)) | (simp; done) | (simp; omega) | omega))
        case b4 => exact HR1.out.below (Below.trans HB1.out (Below.mono (B := w1.heap.size) (by go_grown) HB1.out.size))
        intro A1' e1 v1 hF1 hA1 hz1 hkf1 hkd1 hq1 hw1
        have HF1 : Hid (FiRow v1 A1' d.live) := hF1
        have HA1 : Hid (∀ b o, A1' = some ⟨b, o, none⟩ → w1.heap.size ≤ b) := hA1
        have HY1 : Hid (A1' = none → e1 = 0) := hz1
        have hk1 : Below w1.heap.size w1 v1 := Below.trans (by go_grown) hw1
        have hs1 := hk1.size
        have hkk1 : Below (w.heap.size + 1) w1 v1 := hk1.mono (by omega)
        have HF0_1 : Hid (FiRow v1 A0' d.live) := hkf1 _ _ (HF0.out.below (by go_grown))
        clear hF1 hA1 hz1 hkf1 hkd1 hw1
        refine hKq.out _ _ ?_ (fun hHeld => ?_)
        · exact sc_of (by omega) (by go_grown)
        clear hKq Kq
        try simp only [Act.put, List.getElem_toArray, List.getElem_cons_zero, List.getElem_cons_succ, List.setIfInBounds_toArray, List.set_cons_zero, List.set_cons_succ]
        have pp0 : v1.cell? ⟨w.heap.size + 1, 0, none⟩ = some (.slice none 0 0) := (hk1.cell (p := ⟨w.heap.size + 1, 0, none⟩) hl2).trans p0
        have pp1 : v1.cell? ⟨w.heap.size + 1, 1, none⟩ = some (.slice none 0 0) := (hk1.cell (p := ⟨w.heap.size + 1, 1, none⟩) hl2).trans p1
        have pp2 : v1.cell? ⟨w.heap.size + 1, 2, none⟩ = some (.slice none 0 0) := (hk1.cell (p := ⟨w.heap.size + 1, 2, none⟩) hl2).trans p2
        have ppf : ∀ o, v1.frozen? ⟨w.heap.size + 1, o, none⟩ = false := fun o => (hk1.frozen (p := ⟨w.heap.size + 1, o, none⟩) hl2).trans (pf o)
        have mm : w.heap.size + 1 < v1.heap.size := by omega
        refine wpAnyH_take (i := 8) (v := ?_) rfl (by kernel_rfl) (by kernel_rfl) (by kernel_rfl) (fun _ _ _ h => h) (Or.inl ⟨by rfl, ?_⟩) (by assumption) ?_
        rotate_left
        · (intro wq hSw; (try dsimp only at hSw); go_simp <;> with_reducible rfl)
        try simp only [Act.put, List.getElem_toArray, List.getElem_cons_zero, List.getElem_cons_succ, List.setIfInBounds_toArray, List.set_cons_zero, List.set_cons_succ]
        refine wpAnyH_ready (rs := [9]) (by kernel_rfl) (by simp) (AllReadyH.cons rfl (fun Kq hKq => ?_) AllReadyH.nil)
        go_simp
        refine hKq.out _ _ ?_ (fun hHeld => ?_)
        · exact sc_of (by omega) (by go_grown)
        clear hKq Kq
        try simp only [Act.put, List.getElem_toArray, List.getElem_cons_zero, List.getElem_cons_succ, List.setIfInBounds_toArray, List.set_cons_zero, List.set_cons_succ]
        refine wpAnyH_done (by kernel_rfl) ?_ _
        clear hHeld
        go_wp2_with fail
        refine bodyPost_ret (v := .agg #[(.slice A0' n1 e0), (.slice A1' n1 e1), (.slice none 0 0)]) ?_ rfl ⟨_, rfl, ?_, ?_⟩
        · simp (maxDischargeDepth := 9) [results, Try.results33, go_sem, *]
        · exact ⟨A0', e0, A1', e1, none, 0, by rw [HN1.out]; rfl, set3 HF0_1.out HA0.out hl2 _ _ _, set3 HF1.out HA1.out hl2 _ _ _, ⟨Nat.zero_le _, fun i x hx => by simp at hx⟩, HY0.out, HY1.out, fun _ => rfl⟩
        · exact ((Below.setCell (Below.trans HB1.out (hk1.mono HB1.out.size)) (by show w.heap.size ≤ w.heap.size + 1; omega) _).setCell (by show w.heap.size ≤ w.heap.size + 1; omega) _).setCell (by show w.heap.size ≤ w.heap.size + 1; omega) _
    · go_simp
      refine hKq.out _ _ ?_ (fun hHeld => ?_)
      · exact sc_of (by omega) (by go_grown)
      clear hKq Kq
      try simp only [Act.put, List.getElem_toArray, List.getElem_cons_zero, List.getElem_cons_succ, List.setIfInBounds_toArray, List.set_cons_zero, List.set_cons_succ]
      refine wpAnyH_ready (rs := [0]) (by kernel_rfl) (by simp) (AllReadyH.cons rfl (fun Kq hKq => ?_) (AllReadyH.nil))
      go_simp
      refine hKq.out _ _ ?_ (fun hHeld => ?_)
      · exact sc_of (by omega) (by go_grown)
      clear hKq Kq
      try simp only [Act.put, List.getElem_toArray, List.getElem_cons_zero, List.getElem_cons_succ, List.setIfInBounds_toArray, List.set_cons_zero, List.set_cons_succ]
      refine wpAnyH_ready (rs := [3]) (by kernel_rfl) (by simp) (AllReadyH.cons rfl (fun Kq hKq => ?_) (AllReadyH.nil))
      refine step_copy2_fi (by rfl) _ _ (by rfl) w1.heap.size _ ?b2 ?b3 (by rfl) (by rfl) HN1.out HZ1.out ?b4 (by omega) ?_
      case b2 => first | (simp; done) | omega | (simp; omega)
      case b3 => first | (refine blk_at ?_; simp; done) | (refine block_old (blk_at ?_); simp; done) | (refine block_old (block_old (blk_at ?_)); simp; done)
      case b4 => exact HR1.out.below (Below.trans HB1.out (Below.mono (B := w1.heap.size) (by go_grown) HB1.out.size))
      intro A0' e0 v0 hF0 hA0 hz0 hkf0 hkd0 hq0 hw0
      have HF0 : Hid (FiRow v0 A0' d.live) := hF0
      have HA0 : Hid (∀ b o, A0' = some ⟨b, o, none⟩ → w1.heap.size ≤ b) := hA0
      have HY0 : Hid (A0' = none → e0 = 0) := hz0
      have hk0 : Below w1.heap.size w1 v0 := Below.trans (by go_grown) hw0
      have hs0 := hk0.size
      have hkk0 : Below (w.heap.size + 1) w1 v0 := hk0.mono (by omega)
      clear hF0 hA0 hz0 hkf0 hkd0 hw0
      refine hKq.out _ _ ?_ (fun hHeld => ?_)
      · exact sc_of (by omega) (by go_grown)
      clear hKq Kq
      try simp only [Act.put, List.getElem_toArray, List.getElem_cons_zero, List.getElem_cons_succ, List.setIfInBounds_toArray, List.set_cons_zero, List.set_cons_succ]
      refine wpAnyH_ready (rs := [7]) (by kernel_rfl) (by simp) (AllReadyH.cons rfl (fun Kq hKq => ?_) (AllReadyH.nil))
      refine step_copy2_fi (by rfl) _ _ (by rfl) w1.heap.size _ ?b2 ?b3 (by rfl) (by rfl) HN1.out HZ1.out ?b4 (by omega) ?_
      case b2 => first | (simp; done) | omega | (simp; omega)
      case b3 => first | (refine blk_at ?_; simp; done) | (refine block_old (blk_at ?_); simp; done) | (refine block_old (block_old (blk_at ?_)); simp; done) | (refine hq0 _ _ ?_ ?_ <;> first | (first | (refine blk_at ?_; simp; done) | (refine block_old (blk_at ?_); simp; done) | (refine block_old (block_old (blk_at ?_)); simp; done)) | (simp; done) | (simp; omega) | omega) | (refine block_old ?_; (refine hq0 _ _ ?_ ?_ <;> first | (first | (refine blk_at ?_; simp; done) | (refine block_old (blk_at ?_); simp; done) | (refine block_old (block_old (blk_at ?_)); simp; done)) | (simp; done) | (simp; omega) | omega)) | (refine block_old (block_old ?_); (refine hq0 _ _ ?_ ?_ <;> first | (first | (refine blk_at ?_; simp; done) | (refine block_old (blk_at ?_); simp; done) | (refine block_old (block_old (blk_at ?_)); simp; done)) | (simp; done) | (simp; omega) | omega))
      case b4 => exact HR1.out.below (Below.trans HB1.out (Below.mono (B := w1.heap.size) (by go_grown) HB1.out.size))
      intro A1' e1 v1 hF1 hA1 hz1 hkf1 hkd1 hq1 hw1
      have HF1 : Hid (FiRow v1 A1' d.live) := hF1
      have HA1 : Hid (∀ b o, A1' = some ⟨b, o, none⟩ → w1.heap.size ≤ b) := hA1
      have HY1 : Hid (A1' = none → e1 = 0) := hz1
      have hk1 : Below w1.heap.size w1 v1 := Below.trans (by go_grown) hw1
      have hs1 := hk1.size
      have hkk1 : Below (w.heap.size + 1) w1 v1 := hk1.mono (by omega)
      have HF0_1 : Hid (FiRow v1 A0' d.live) := hkf1 _ _ (HF0.out.below (by go_grown))
      clear hF1 hA1 hz1 hkf1 hkd1 hw1
      refine hKq.out _ _ ?_ (fun hHeld => ?_)
      · exact sc_of (by omega) (by go_grown)
      clear hKq Kq
      try simp only [Act.put, List.getElem_toArray, List.getElem_cons_zero, List.getElem_cons_succ, List.setIfInBounds_toArray, List.set_cons_zero, List.set_cons_succ]
      have pp0 : v1.cell? ⟨w.heap.size + 1, 0, none⟩ = some (.slice none 0 0) := (hk1.cell (p := ⟨w.heap.size + 1, 0, none⟩) hl2).trans p0
      have pp1 : v1.cell? ⟨w.heap.size + 1, 1, none⟩ = some (.slice none 0 0) := (hk1.cell (p := ⟨w.heap.size + 1, 1, none⟩) hl2).trans p1
      have pp2 : v1.cell? ⟨w.heap.size + 1, 2, none⟩ = some (.slice none 0 0) := (hk1.cell (p := ⟨w.heap.size + 1, 2, none⟩) hl2).trans p2
      have ppf : ∀ o, v1.frozen? ⟨w.heap.size + 1, o, none⟩ = false := fun o => (hk1.frozen (p := ⟨w.heap.size + 1, o, none⟩) hl2).trans (pf o)
      have mm : w.heap.size + 1 < v1.heap.size := by omega
      refine wpAnyH_take (i := 8) (v := ?_) rfl (by kernel_rfl) (by kernel_rfl) (by kernel_rfl) (fun _ _ _ h => h) (Or.inl ⟨by rfl, ?_⟩) (by assumption) ?_
      rotate_left
      · (intro wq hSw; (try dsimp only at hSw); go_simp <;> with_reducible rfl)
      try simp only [Act.put, List.getElem_toArray, List.getElem_cons_zero, List.getElem_cons_succ, List.setIfInBounds_toArray, List.set_cons_zero, List.set_cons_succ]
      refine wpAnyH_ready (rs := [9]) (by kernel_rfl) (by simp) (AllReadyH.cons rfl (fun Kq hKq => ?_) AllReadyH.nil)
      go_simp
      refine hKq.out _ _ ?_ (fun hHeld => ?_)
      · exact sc_of (by omega) (by go_grown)
      clear hKq Kq
      try simp only [Act.put, List.getElem_toArray, List.getElem_cons_zero, List.getElem_cons_succ, List.setIfInBounds_toArray, List.set_cons_zero, List.set_cons_succ]
      refine wpAnyH_done (by kernel_rfl) ?_ _
      clear hHeld
      go_wp2_with fail
      refine bodyPost_ret (v := .agg #[(.slice A0' n1 e0), (.slice A1' n1 e1), (.slice none 0 0)]) ?_ rfl ⟨_, rfl, ?_, ?_⟩
      · simp (maxDischargeDepth := 9) [results, Try.results33, go_sem, *]
      · exact ⟨A0', e0, A1', e1, none, 0, by rw [HN1.out]; rfl, set3 HF0_1.out HA0.out hl2 _ _ _, set3 HF1.out HA1.out hl2 _ _ _, ⟨Nat.zero_le _, fun i x hx => by simp at hx⟩, HY0.out, HY1.out, fun _ => rfl⟩
      · exact ((Below.setCell (Below.trans HB1.out (hk1.mono HB1.out.size)) (by show w.heap.size ≤ w.heap.size + 1; omega) _).setCell (by show w.heap.size ≤ w.heap.size + 1; omega) _).setCell (by show w.heap.size ≤ w.heap.size + 1; omega) _
end Go.Proofs.Ytanjlpgdmnapdaa
