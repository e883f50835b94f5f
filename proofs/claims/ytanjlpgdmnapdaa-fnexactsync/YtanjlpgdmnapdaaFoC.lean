import Derived.Test.YtanjlpgdmnapdaaFoB
namespace Go.Proofs.Ytanjlpgdmnapdaa
open Go.RowKit Go.Maps
set_option linter.unusedSimpArgs false
set_option linter.unusedVariables false

theorem sumZ_snoc (ps : List ByteArray) (d : ByteArray) : sumZ (ps ++ [d]) = sumZ ps + d.size := by simp [sumZ]
/-- One piece more: the folder behind it. -/
theorem Fold.put {w w' : World} {B b m n : Nat} {E : List FE} {e : FE} (h : Fold w B b m E) (hs : e.n.size ≤ maxLen) (g1 : w.grownBy w' (foV E e.n.data.toList).ownBlock) (hr : w'.ownsRow B 9 1 e.v e.ps.length (e.ps.map Value.string))
    (hl : (foV E e.n.data.toList).ownBlock = e.v.ownBlock ∨ ∃ g, e.v.ownBlock = some g ∧ w.heap.size ≤ g) {w2 : World} (ho : w2.ownsMap Try.prog 9 pcE b n (FD (putK feK e E))) (g2 : w'.grownBy w2 (some b)) : Fold w2 B b n (putK feK e E) := by
  have hbv := own_map_ne h.own (h.row e.n.data.toList)
  have hb1 : w'.ownsMap Try.prog 9 pcE b m (FD E) := h.own.kept g1 hbv
  have key : ∀ y ∈ E, feK y ≠ feK e → y.v.ownBlock = none ∨ y.v.ownBlock ≠ e.v.ownBlock := fun y hy hne => by
    rcases hl with hl | ⟨g, hg, hlt⟩
    · rw [← hl]; exact h.others _ y hy hne
    · cases hv : y.v.ownBlock with
      | none => exact Or.inl rfl
      | some q =>
        right
        rw [hg]
        have := ((h.rows y hy).lt q hv).2
        simp; omega
  have old : ∀ y ∈ E, feK y ≠ feK e → w2.ownsRow B 9 1 y.v y.ps.length (y.ps.map Value.string) := fun y hy hne => by
    have h1 := (h.rows y hy).kept g1 (h.others _ y hy hne)
    exact h1.kept g2 (Or.inr fun e2 => own_map_ne hb1 h1 e2.symm)
  have new : w2.ownsRow B 9 1 e.v e.ps.length (e.ps.map Value.string) := hr.kept g2 (Or.inr fun e2 => own_map_ne hb1 hr e2.symm)
  refine ⟨ho, up_putK h.up, h.base, fun x hx => ?_, fun x hx y hy hne => ?_, fun x hx => ?_⟩
  · rcases mem_putK.1 hx with rfl | ⟨h1, h2⟩
    · exact new
    · exact old x h1 h2
  · rcases mem_putK.1 hx with rfl | ⟨h1, h2⟩ <;> rcases mem_putK.1 hy with rfl | ⟨h3, h4⟩
    · exact absurd rfl hne
    · rcases key y h3 h4 with k | k
      · rw [k]; cases x.v.ownBlock <;> simp
      · exact Or.inr k.symm
    · exact key x h1 h2
    · exact h.apart x h1 y h3 hne
  · rcases mem_putK.1 hx with rfl | ⟨h1, h2⟩
    · exact hs
    · exact h.names x h1

set_option maxRecDepth 100000 in
set_option maxHeartbeats 2000000 in
theorem impl_put {B b m : Nat} {E : List FE} (s d : ByteArray) (w : World) (h : Fold w B b m E) (hB : B ≤ w.heap.size) (hs : s.size ≤ maxLen) (hm : m < 1073741824) (hd : d.size ≤ 1099511627776) (hz : sumZ (foP E s.data.toList) ≤ 1099511627776) (hp : (foP E s.data.toList).length ≤ 1099511627776) :
    Calls Try.prog 79 #[.map (some b), .string s, .string d] w fun e w' => e = .returned (.tuple #[]) ∧ (∃ v, Fold w' B b (m + 1) (putK feK ⟨s, foP E s.data.toList ++ [d], v⟩ E)) ∧ Below B w w' := by
  have HF : Hid (Fold w B b m E) := h
  have HS : Hid (s.size ≤ maxLen) := hs
  obtain ⟨v, HV⟩ : ∃ v, Hid (foV E s.data.toList = v) := ⟨_, rfl⟩
  obtain ⟨ps, HP⟩ : ∃ ps, Hid (foP E s.data.toList = ps) := ⟨_, rfl⟩
  obtain ⟨z, HZ⟩ : ∃ z : Nat, Hid (sumZ ps = z) := ⟨_, rfl⟩
  rw [HP.out] at hz hp ⊢
  rw [HZ.out] at hz
  have hrow := h.row s.data.toList
  rw [HV.out, HP.out] at hrow
  obtain ⟨A, cap, rfl, x1, x2⟩ := own_shape hrow
  have HR : Hid (w.ownsRow B 9 1 (.slice A ps.length cap) ps.length (ps.map Value.string)) := hrow
  clear h hs hrow x1 x2
  obtain ⟨n, HN⟩ : ∃ n, Hid (ps.length = n) := ⟨_, rfl⟩
  rw [HN.out] at HV HR hp
  obtain ⟨i0, hi, iz0, iz1, iz2⟩ := info_parts infoStr
  go_enter Try.func79, Try.ntmps79
  go_wp2_with (first
    | (at_lookup; refine wpList_lookup_fo _ rfl _ _ rfl b m E rfl HF.out.own s rfl HS.out ?_; rw [HV.out, HP.out, HZ.out]))
  have q1 : IntKind.i64.wrap ((z : Int) + (d.size : Int)) = ((z + d.size : Nat) : Int) := by rw [IntKind.wrap_i64]; omega
  refine wp_region_held_drew (S := (fun w' => w'.cell? ⟨w.heap.size, 0, none⟩ = some (.slice A n cap) ∧ w'.cell? ⟨w.heap.size, 1, none⟩ = some (.int .i64 (z : Int)))) (by kernel_rfl) (by constructor <;> simp) (fun hHeld => ?_)
  refine wpAnyH_take (i := 0) (v := ?_) rfl (by kernel_rfl) (by kernel_rfl) (by kernel_rfl) (fun _ _ _ h => h) (Or.inl ⟨by rfl, ?_⟩) (by assumption) ?_
  rotate_left
  · (intro wq hSw; (try dsimp only at hSw); go_simp <;> with_reducible rfl)
  try simp only [Act.put, List.getElem_toArray, List.getElem_cons_zero, List.getElem_cons_succ, List.setIfInBounds_toArray, List.set_cons_zero, List.set_cons_succ]
  refine wpAnyH_take (i := 1) (v := ?_) rfl (by kernel_rfl) (by kernel_rfl) (by kernel_rfl) (fun _ _ _ h => h) (Or.inl ⟨by rfl, ?_⟩) (by assumption) ?_
  rotate_left
  · (intro wq hSw; (try dsimp only at hSw); go_simp <;> with_reducible rfl)
  try simp only [Act.put, List.getElem_toArray, List.getElem_cons_zero, List.getElem_cons_succ, List.setIfInBounds_toArray, List.set_cons_zero, List.set_cons_succ]
  refine wpAnyH_take (i := 2) (v := ?_) rfl (by kernel_rfl) (by kernel_rfl) (by kernel_rfl) (fun _ _ _ h => h) (Or.inl ⟨by rfl, ?_⟩) (by assumption) ?_
  rotate_left
  · (intro wq hSw; (try dsimp only at hSw); go_simp <;> with_reducible rfl)
  try simp only [Act.put, List.getElem_toArray, List.getElem_cons_zero, List.getElem_cons_succ, List.setIfInBounds_toArray, List.set_cons_zero, List.set_cons_succ]
  refine wpAnyH_take (i := 3) (v := ?_) rfl (by kernel_rfl) (by kernel_rfl) (by kernel_rfl) (fun _ _ _ h => h) (Or.inl ⟨by rfl, ?_⟩) (by assumption) ?_
  rotate_left
  · (intro wq hSw; (try dsimp only at hSw); go_simp <;> with_reducible rfl)
  try simp only [Act.put, List.getElem_toArray, List.getElem_cons_zero, List.getElem_cons_succ, List.setIfInBounds_toArray, List.set_cons_zero, List.set_cons_succ]
  refine wpAnyH_take (i := 4) (v := ?_) rfl (by kernel_rfl) (by kernel_rfl) (by kernel_rfl) (fun _ _ _ h => h) (Or.inl ⟨by rfl, ?_⟩) (by assumption) ?_
  rotate_left
  · (intro wq hSw; (try dsimp only at hSw); go_simp <;> with_reducible rfl)
  try simp only [Act.put, List.getElem_toArray, List.getElem_cons_zero, List.getElem_cons_succ, List.setIfInBounds_toArray, List.set_cons_zero, List.set_cons_succ]
  refine wpAnyH_take (i := 7) (v := ?_) rfl (by kernel_rfl) (by kernel_rfl) (by kernel_rfl) (fun _ _ _ h => h) (Or.inl ⟨by rfl, ?_⟩) (by assumption) ?_
  rotate_left
  · (intro wq hSw; (try dsimp only at hSw); go_simp <;> with_reducible rfl)
  try simp only [Act.put, List.getElem_toArray, List.getElem_cons_zero, List.getElem_cons_succ, List.setIfInBounds_toArray, List.set_cons_zero, List.set_cons_succ]
  refine wpAnyH_take (i := 8) (v := ?_) rfl (by kernel_rfl) (by kernel_rfl) (by kernel_rfl) (fun _ _ _ h => h) (Or.inl ⟨by rfl, ?_⟩) (by assumption) ?_
  rotate_left
  · (intro wq hSw; (try dsimp only at hSw); go_simp <;> with_reducible rfl)
  try simp only [Act.put, List.getElem_toArray, List.getElem_cons_zero, List.getElem_cons_succ, List.setIfInBounds_toArray, List.set_cons_zero, List.set_cons_succ]
  refine wpAnyH_take (i := 9) (v := ?_) rfl (by kernel_rfl) (by kernel_rfl) (by kernel_rfl) (fun _ _ _ h => h) (Or.inl ⟨by rfl, ?_⟩) (by assumption) ?_
  rotate_left
  · (intro wq hSw; (try dsimp only at hSw); go_simp <;> with_reducible rfl)
  try simp only [Act.put, List.getElem_toArray, List.getElem_cons_zero, List.getElem_cons_succ, List.setIfInBounds_toArray, List.set_cons_zero, List.set_cons_succ]
  refine wpAnyH_take (i := 10) (v := ?_) rfl (by kernel_rfl) (by kernel_rfl) (by kernel_rfl) (fun _ _ _ h => h) (Or.inl ⟨by rfl, ?_⟩) (by assumption) ?_
  rotate_left
  · (intro wq hSw; (try dsimp only at hSw); go_simp <;> with_reducible rfl)
  try simp only [Act.put, List.getElem_toArray, List.getElem_cons_zero, List.getElem_cons_succ, List.setIfInBounds_toArray, List.set_cons_zero, List.set_cons_succ]
  refine wpAnyH_take (i := 11) (v := ?_) rfl (by kernel_rfl) (by kernel_rfl) (by kernel_rfl) (fun _ _ _ h => h) (Or.inl ⟨by rfl, ?_⟩) (by assumption) ?_
  rotate_left
  · (intro wq hSw; (try dsimp only at hSw); go_simp <;> with_reducible rfl)
  try simp only [Act.put, List.getElem_toArray, List.getElem_cons_zero, List.getElem_cons_succ, List.setIfInBounds_toArray, List.set_cons_zero, List.set_cons_succ]
  refine wpAnyH_ready (rs := [5]) (by kernel_rfl) (by simp) (AllReadyH.cons rfl (fun Kq hKq => ?_) AllReadyH.nil)
  go_simp
  refine hKq.out _ _ ?_ (fun hHeld => ?_)
  · constructor <;> simp
  clear hKq Kq
  try simp only [Act.put, List.getElem_toArray, List.getElem_cons_zero, List.getElem_cons_succ, List.setIfInBounds_toArray, List.set_cons_zero, List.set_cons_succ]
  refine wpAnyH_ready (rs := [6]) (by kernel_rfl) (by simp) (AllReadyH.cons rfl (fun Kq hKq => ?_) AllReadyH.nil)
  refine step_append_lies _ (by rfl) _ _ _ (by rfl) B 9 i0 _ 1 16 Try.underlying94 hi iz0 iz1 iz2 rfl (by omega) (.slice A n cap) n (ps.map Value.string) (by rfl) (((HR.out.alloc _).alloc _).drew) ⟨w.heap.size + 1, 0, none⟩ 1 1 [.string d] (by rfl) (by rfl) (World.news_of_block (cs := #[.string d]) (t := 9) (fr := (0, 0)) (by have hn := heap_alloc_new (w.alloc (.cells #[.slice A n cap, .int .i64 (z : Int)] 118)) (.cells #[.string d] 9); rw [World.size_alloc] at hn; exact hn)) (by simp [Value.oneCell']) (by omega) (by unfold maxLen; omega) (by omega) (by simp; omega) (w.heap.size + 1 + 1) (by simp) ?_
  intro gg gcap w3 hown3 hgrow hat hlt3
  have G0 : w.grownBy ((w.alloc (.cells #[.slice A n cap, .int .i64 (z : Int)] 118)).alloc (.cells #[.string d] 9)).drew none := by
    exact grown_below none (by go_grown)
  have G3 : Hid (w.grownBy w3 (Value.slice A n cap).ownBlock) := grown_trans (G0.but _) hgrow
  have HS3 : w3.cell? ⟨w.heap.size, 0, none⟩ = some (.slice A n cap) ∧ w3.cell? ⟨w.heap.size, 1, none⟩ = some (.int .i64 (z : Int)) := by
    have hne : some w.heap.size ≠ (Value.slice A n cap).ownBlock := fun e => by
      have := (HR.out.lt _ e.symm).2
      omega
    exact ⟨hgrow.cell (a := ⟨w.heap.size, 0, none⟩) (by simp) hne, hgrow.cell (a := ⟨w.heap.size, 1, none⟩) (by simp) hne⟩
  refine hKq.out _ _ ?_ (fun hHeld => ?_)
  · exact HS3
  clear hKq Kq
  try simp only [Act.put, List.getElem_toArray, List.getElem_cons_zero, List.getElem_cons_succ, List.setIfInBounds_toArray, List.set_cons_zero, List.set_cons_succ]
  refine wpAnyH_take (i := 12) (v := ?_) rfl (by kernel_rfl) (by kernel_rfl) (by kernel_rfl) (fun _ _ _ h => h) (Or.inl ⟨by rfl, ?_⟩) (by assumption) ?_
  rotate_left
  · (intro wq hSw; (try dsimp only at hSw); go_simp <;> with_reducible rfl)
  try simp only [Act.put, List.getElem_toArray, List.getElem_cons_zero, List.getElem_cons_succ, List.setIfInBounds_toArray, List.set_cons_zero, List.set_cons_succ]
  refine wpAnyH_ready (rs := [13]) (by kernel_rfl) (by simp) (AllReadyH.cons rfl (fun Kq hKq => ?_) AllReadyH.nil)
  refine step_mapUpdate_fo (by rfl) _ _ _ (by rfl) b m E (by rfl) ?_ (by unfold maxLen; omega) ⟨s, ps ++ [d], .slice (some ⟨gg, 0, none⟩) (n + 1) gcap⟩ (by rfl) HS.out ?_ ?_
  · exact HF.out.own.kept G3.out (own_map_ne HF.out.own HR.out)
  · simp only [sumZ_snoc, HZ.out]; rfl
  intro w4 hown4 hgrow4 hsz4
  have hbne : some w.heap.size ≠ some b := fun e => by
    cases e
    exact absurd HF.out.own.lt (Nat.lt_irrefl _)
  refine hKq.out _ _ ?_ (fun hHeld => ?_)
  · exact ⟨hgrow4.cell (a := ⟨w.heap.size, 0, none⟩) HS3.1 hbne, hgrow4.cell (a := ⟨w.heap.size, 1, none⟩) HS3.2 hbne⟩
  clear hKq Kq
  try simp only [Act.put, List.getElem_toArray, List.getElem_cons_zero, List.getElem_cons_succ, List.setIfInBounds_toArray, List.set_cons_zero, List.set_cons_succ]
  refine wpAnyH_done (by kernel_rfl) ?_ _
  have FIN : Hid (Fold w4 B b (m + 1) (putK feK ⟨s, ps ++ [d], .slice (some ⟨gg, 0, none⟩) (n + 1) gcap⟩ E)) := by
    refine HF.out.put (e := ⟨s, ps ++ [d], .slice (some ⟨gg, 0, none⟩) (n + 1) gcap⟩) HS.out (w' := w3) ?_ ?_ ?_ hown4 hgrow4
    · show w.grownBy w3 (foV E s.data.toList).ownBlock
      rw [HV.out]; exact G3.out
    · show w3.ownsRow B 9 1 (.slice (some ⟨gg, 0, none⟩) (n + 1) gcap) (ps ++ [d]).length ((ps ++ [d]).map Value.string)
      rw [List.length_append, HN.out, List.map_append]
      exact hown3
    · show (foV E s.data.toList).ownBlock = some gg ∨ _
      rw [HV.out]
      rcases hat with hat | hat
      · exact Or.inl hat
      · exact Or.inr ⟨gg, rfl, by rw [hat]; omega⟩
  have BEL : Hid (Below B w w4) := by
    have b1 : Below B w w3 := (Below.refl B w).grown G3.out hB (fun q hq => (HR.out.lt q hq).1)
    exact b1.grown hgrow4 (Nat.le_trans hB b1.size) (fun q hq => by cases hq; exact HF.out.base)
  clear hHeld hown3 hown4 hgrow hgrow4 HS3
  go_returns
  exact ⟨rfl, ⟨_, FIN.out⟩, BEL.out⟩
end Go.Proofs.Ytanjlpgdmnapdaa
