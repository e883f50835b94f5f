import Derived.Test.YtanjlpgdmnapdaaGd
namespace Go.Proofs.Ytanjlpgdmnapdaa
open Go.RowKit Go.Maps
set_option linter.unusedSimpArgs false
set_option linter.unusedVariables false

theorem sumZ_snoc (ps : List ByteArray) (d : ByteArray) : sumZ (ps ++ [d]) = sumZ ps + d.size := by simp [sumZ]
/-- One piece more: the folder behind it. -/
theorem Fold.put {w w' : World} {B b m n : Nat} {E : List FE} {e : FE} (h : Fold w B b m E) (hs : e.n.size ≤ maxLen) (g1 : w.grownBy w' (foV E e.n.data.toList).ownBlock) (hr : w'.ownsRow B 9 1 e.v e.ps.length (e.ps.map Value.string))
    (hl : (foV E e.n.data.toList).ownBlock = e.v.ownBlock ∨ ∃ g, e.v.ownBlock = some g ∧ w.heap.size ≤ g) {w2 : World} (ho : w2.ownsMap Try.prog 9 pcE b n (FD (putK feK e E))) (g2 : w'.grownBy w2 (some b)) : Fold w2 B b n (putK feK e E) := by
  have hbv := own_map_ne h.own (h.row e.n.data.toList)
  have hb1 : w'.ownsMap Try.prog 9 pcE b m (FD E) := h.own.kept g1 hbv
  have key : ∀ y ∈ E, feK y ≠ feK e → y.v.ownBlock = none ∨ y.v.ownBlock ≠ e.v.ownBlock := fun y hy hne => by
    rcases hl with hl | ⟨g, hg, hlt⟩
    · rw [← hl]; exact h.others _ y hy hne
    · cases hv : y.v.ownBlock with
      | none => exact Or.inl rfl
      | some q =>
        right
        rw [hg]
        have := ((h.rows y hy).lt q hv).2
        simp; omega
  have old : ∀ y ∈ E, feK y ≠ feK e → w2.ownsRow B 9 1 y.v y.ps.length (y.ps.map Value.string) := fun y hy hne => by
    have h1 := (h.rows y hy).kept g1 (h.others _ y hy hne)
    exact h1.kept g2 (Or.inr fun e2 => own_map_ne hb1 h1 e2.symm)
  have new : w2.ownsRow B 9 1 e.v e.ps.length (e.ps.map Value.string) := hr.kept g2 (Or.inr fun e2 => own_map_ne hb1 hr e2.symm)
  refine ⟨ho, up_putK h.up, h.base, fun x hx => ?_, fun x hx y hy hne => ?_, fun x hx => ?_⟩
  · rcases mem_putK.1 hx with rfl | ⟨h1, h2⟩
    · exact new
    · exact old x h1 h2
  · rcases mem_putK.1 hx with rfl | ⟨h1, h2⟩ <;> rcases mem_putK.1 hy with rfl | ⟨h3, h4⟩
    · exact absurd rfl hne
    · rcases key y h3 h4 with k | k
      · rw [k]; cases x.v.ownBlock <;> simp
      · exact Or.inr k.symm
    · exact key x h1 h2
    · exact h.apart x h1 y h3 hne
  · rcases mem_putK.1 hx with rfl | ⟨h1, h2⟩
    · exact hs
    · exact h.names x h1

set_option maxRecDepth 100000 in
set_option maxHeartbeats 2000000 in
theorem impl_put {B b m : Nat} {E : List FE} (s d : ByteArray) (w : World) (h : Fold w B b m E) (hB : B ≤ w.heap.size) (hs : s.size ≤ maxLen) (hm : m < 1073741824) (hd : d.size ≤ 1099511627776) (hz : sumZ (foP E s.data.toList) ≤ 1099511627776) (hp : (foP E s.data.toList).length ≤ 1099511627776) :
    Calls Try.prog 79 #[.map (some b), .string s, .string d] w fun e w' => e = .returned (.tuple #[]) ∧ (∃ v, Fold w' B b (m + 1) (putK feK ⟨s, foP E s.data.toList ++ [d], v⟩ E)) ∧ Below B w w' := by
  have HF : Hid (Fold w B b m E) := h
  have HS : Hid (s.size ≤ maxLen) := hs
  obtain ⟨v, HV⟩ : ∃ v, Hid (foV E s.data.toList = v) := ⟨_, rfl⟩
  obtain ⟨ps, HP⟩ : ∃ ps, Hid (foP E s.data.toList = ps) := ⟨_, rfl⟩
  obtain ⟨z, HZ⟩ : ∃ z : Nat, Hid (sumZ ps = z) := ⟨_, rfl⟩
  rw [HP.out] at hz hp ⊢
  rw [HZ.out] at hz
  have hrow := h.row s.data.toList
  rw [HV.out, HP.out] at hrow
  obtain ⟨A, cap, rfl, x1, x2⟩ := own_shape hrow
  have HR : Hid (w.ownsRow B 9 1 (.slice A ps.length cap) ps.length (ps.map Value.string)) := hrow
  clear h hs hrow x1 x2
  obtain ⟨n, HN⟩ : ∃ n, Hid (ps.length = n) := ⟨_, rfl⟩
  rw [HN.out] at HV HR hp
  obtain ⟨i0, hi, iz0, iz1, iz2⟩ := info_parts infoStr
  go_enter Try.func79, Try.ntmps79
  go_wp2_with (first
    | (at_lookup; refine wpList_lookup_fo _ rfl _ _ rfl b m E rfl HF.out.own s rfl HS.out ?_; rw [HV.out, HP.out, HZ.out]))
  have q1 : IntKind.i64.wrap ((z : Int) + (d.size : Int)) = ((z + d.size : Nat) : Int) := by rw [IntKind.wrap_i64]; omega
  refine wp_region_held_drew (S := (fun w' => w'.cell? ⟨w.heap.size, 0, none⟩ = some (.slice A n cap) ∧ w'.cell? ⟨w.heap.size, 1, none⟩ = some (.int .i64 (z : Int)))) (by kernel_rfl) (by constructor <;> simp) (fun hHeld => ?_)
  refine wpAnyH_take (i := 0) (v := ?_) rfl (by kernel_rfl) (by kernel_rfl) (by kernel_rfl) (fun _ _ _ h => h) (Or.inl ⟨by rfl, ?_⟩) (by assumption) ?_
  rotate_left
  · (intro wq hSw; (try dsimp only at hSw); go_simp <;> with_reducible rfl)
  try simp only [Act.put, List.getElem_toArray, List.getElem_cons_zero, List.getElem_cons_succ, List.setIfInBounds_toArray, List.set_cons_zero, List.set_cons_succ]
  refine wpAnyH_take (i := 1) (v := ?_) rfl (by kernel_rfl) (by kernel_rfl) (by kernel_rfl) (fun _ _ _ h => h) (Or.inl ⟨by rfl, ?_⟩) (by assumption) ?_
  rotate_left
  · (intro wq hSw; (try dsimp only at hSw); go_simp <;> with_reducible rfl)
  try simp only [Act.put, List.getElem_toArray, List.getElem_cons_zero, List.getElem_cons_succ, List.setIfInBounds_toArray, List.set_cons_zero, List.set_cons_succ]
  refine wpAnyH_take (i := 2) (v := ?_) rfl (by kernel_rfl) (by kernel_rfl) (by kernel_rfl) (fun _ _ _ h => h) (Or.inl ⟨by rfl, ?_⟩) (by assumption) ?_
  rotate_left
  · (intro wq hSw; (try dsimp only at hSw); go_simp <;> with_reducible rfl)
  try simp only [Act.put, List.getElem_toArray, List.getElem_cons_zero, List.getElem_cons_succ, List.setIfInBounds_toArray, List.set_cons_zero, List.set_cons_succ]
  refine wpAnyH_take (i := 3) (v := ?_) rfl (by kernel_rfl) (by kernel_rfl) (by kernel_rfl) (fun _ _ _ h => h) (Or.inl ⟨by rfl, ?_⟩) (by assumption) ?_
  rotate_left
  · (intro wq hSw; (try dsimp only at hSw); go_simp <;> with_reducible rfl)
  try simp only [Act.put, List.getElem_toArray, List.getElem_cons_zero, List.getElem_cons_succ, List.setIfInBounds_toArray, List.set_cons_zero, List.set_cons_succ]
  refine wpAnyH_take (i := 4) (v := ?_) rfl (by kernel_rfl) (by kernel_rfl) (by kernel_rfl) (fun _ _ _ h => h) (Or.inl ⟨by rfl, ?_⟩) (by assumption) ?_
  rotate_left
  · (intro wq hSw; (try dsimp only at hSw); go_simp <;> with_reducible rfl)
  try simp only [Act.put, List.getElem_toArray, List.getElem_cons_zero, List.getElem_cons_succ, List.setIfInBounds_toArray, List.set_cons_zero, List.set_cons_succ]
  refine wpAnyH_take (i := 7) (v := ?_) rfl (by kernel_rfl) (by kernel_rfl) (by kernel_rfl) (fun _ _ _ h => h) (Or.inl ⟨by rfl, ?_⟩) (by assumption) ?_
  rotate_left
  · (intro wq hSw; (try dsimp only at hSw); go_simp <;> with_reducible rfl)
  try simp only [Act.put, List.getElem_toArray, List.getElem_cons_zero, List.getElem_cons_succ, List.setIfInBounds_toArray, List.set_cons_zero, List.set_cons_succ]
  refine wpAnyH_take (i := 8) (v := ?_) rfl (by kernel_rfl) (by kernel_rfl) (by kernel_rfl) (fun _ _ _ h => h) (Or.inl ⟨by rfl, ?_⟩) (by assumption) ?_
  rotate_left
  · (intro wq hSw; (try dsimp only at hSw); go_simp <;> with_reducible rfl)
  try simp only [Act.put, List.getElem_toArray, List.getElem_cons_zero, List.getElem_cons_succ, List.setIfInBounds_toArray, List.set_cons_zero, List.set_cons_succ]
  refine wpAnyH_take (i := 9) (v := ?_) rfl (by kernel_rfl) (by kernel_rfl) (by kernel_rfl) (fun _ _ _ h => h) (Or.inl ⟨by rfl, ?_⟩) (by assumption) ?_
  rotate_left
  · (intro wq hSw; (try dsimp only at hSw); go_simp <;> with_reducible rfl)
  try simp only [Act.put, List.getElem_toArray, List.getElem_cons_zero, List.getElem_cons_succ, List.setIfInBounds_toArray, List.set_cons_zero, List.set_cons_succ]
  refine wpAnyH_take (i := 10) (v := ?_) rfl (by kernel_rfl) (by kernel_rfl) (by kernel_rfl) (fun _ _ _ h => h) (Or.inl ⟨by rfl, ?_⟩) (by assumption) ?_
  rotate_left
  · (intro wq hSw; (try dsimp only at hSw); go_simp <;> with_reducible rfl)
  try simp only [Act.put, List.getElem_toArray, List.getElem_cons_zero, List.getElem_cons_succ, List.setIfInBounds_toArray, List.set_cons_zero, List.set_cons_succ]
  refine wpAnyH_take (i := 11) (v := ?_) rfl (by kernel_rfl) (by kernel_rfl) (by kernel_rfl) (fun _ _ _ h => h) (Or.inl ⟨by rfl, ?_⟩) (by assumption) ?_
  rotate_left
  · (intro wq hSw; (try dsimp only at hSw); go_simp <;> with_reducible rfl)
  try simp only [Act.put, List.getElem_toArray, List.getElem_cons_zero, List.getElem_cons_succ, List.setIfInBounds_toArray, List.set_cons_zero, List.set_cons_succ]
  refine wpAnyH_ready (rs := [5]) (by kernel_rfl) (by simp) (AllReadyH.cons rfl (fun Kq hKq => ?_) AllReadyH.nil)
  go_simp
  refine hKq.out _ _ ?_ (fun hHeld => ?_)
  · constructor <;> simp
  clear hKq Kq
  try simp only [Act.put, List.getElem_toArray, List.getElem_cons_zero, List.getElem_cons_succ, List.setIfInBounds_toArray, List.set_cons_zero, List.set_cons_succ]
  refine wpAnyH_ready (rs := [6]) (by kernel_rfl) (by simp) (AllReadyH.cons rfl (fun Kq hKq => ?_) AllReadyH.nil)
  refine step_append_lies _ (by rfl) _ _ _ (by rfl) B 9 i0 _ 1 16 Try.underlying94 hi iz0 iz1 iz2 rfl (by omega) (.slice A n cap) n (ps.map Value.string) (by rfl) (((HR.out.alloc _).alloc _).drew) ⟨w.heap.size + 1, 0, none⟩ 1 1 [.string d] (by rfl) (by rfl) (World.news_of_block (cs := #[.string d]) (t := 9) (fr := (0, 0)) (by have hn := heap_alloc_new (w.alloc (.cells #[.slice A n cap, .int .i64 (z : Int)] 118)) (.cells #[.string d] 9); rw [World.size_alloc] at hn; exact hn)) (by simp [Value.oneCell']) (by omega) (by unfold maxLen; omega) (by omega) (by simp; omega) (w.heap.size + 1 + 1) (by simp) ?_
  intro gg gcap w3 hown3 hgrow hat hlt3
  have G0 : w.grownBy ((w.alloc (.cells #[.slice A n cap, .int .i64 (z : Int)] 118)).alloc (.cells #[.string d] 9)).drew none := by
    exact grown_below none (by go_grown)
  have G3 : Hid (w.grownBy w3 (Value.slice A n cap).ownBlock) := grown_trans (G0.but _) hgrow
  have HS3 : w3.cell? ⟨w.heap.size, 0, none⟩ = some (.slice A n cap) ∧ w3.cell? ⟨w.heap.size, 1, none⟩ = some (.int .i64 (z : Int)) := by
    have hne : some w.heap.size ≠ (Value.slice A n cap).ownBlock := fun e => by
      have := (HR.out.lt _ e.symm).2
      omega
    exact ⟨hgrow.cell (a := ⟨w.heap.size, 0, none⟩) (by simp) hne, hgrow.cell (a := ⟨w.heap.size, 1, none⟩) (by simp) hne⟩
  refine hKq.out _ _ ?_ (fun hHeld => ?_)
  · exact HS3
  clear hKq Kq
  try simp only [Act.put, List.getElem_toArray, List.getElem_cons_zero, List.getElem_cons_succ, List.setIfInBounds_toArray, List.set_cons_zero, List.set_cons_succ]
  refine wpAnyH_take (i := 12) (v := ?_) rfl (by kernel_rfl) (by kernel_rfl) (by kernel_rfl) (fun _ _ _ h => h) (Or.inl ⟨by rfl, ?_⟩) (by assumption) ?_
  rotate_left
  · (intro wq hSw; (try dsimp only at hSw); go_simp <;> with_reducible rfl)
  try simp only [Act.put, List.getElem_toArray, List.getElem_cons_zero, List.getElem_cons_succ, List.setIfInBounds_toArray, List.set_cons_zero, List.set_cons_succ]
  refine wpAnyH_ready (rs := [13]) (by kernel_rfl) (by simp) (AllReadyH.cons rfl (fun Kq hKq => ?_) AllReadyH.nil)
  refine step_mapUpdate_fo (by rfl) _ _ _ (by rfl) b m E (by rfl) ?_ (by unfold maxLen; omega) ⟨s, ps ++ [d], .slice (some ⟨gg, 0, none⟩) (n + 1) gcap⟩ (by rfl) HS.out ?_ ?_
  · exact HF.out.own.kept G3.out (own_map_ne HF.out.own HR.out)
  · simp only [sumZ_snoc, HZ.out]; rfl
  intro w4 hown4 hgrow4 hsz4
  have hbne : some w.heap.size ≠ some b := fun e => by
    cases e
    exact absurd HF.out.own.lt (Nat.lt_irrefl _)
  refine hKq.out _ _ ?_ (fun hHeld => ?_)
  · exact ⟨hgrow4.cell (a := ⟨w.heap.size, 0, none⟩) HS3.1 hbne, hgrow4.cell (a := ⟨w.heap.size, 1, none⟩) HS3.2 hbne⟩
  clear hKq Kq
  try simp only [Act.put, List.getElem_toArray, List.getElem_cons_zero, List.getElem_cons_succ, List.setIfInBounds_toArray, List.set_cons_zero, List.set_cons_succ]
  refine wpAnyH_done (by kernel_rfl) ?_ _
  have FIN : Hid (Fold w4 B b (m + 1) (putK feK ⟨s, ps ++ [d], .slice (some ⟨gg, 0, none⟩) (n + 1) gcap⟩ E)) := by
    refine HF.out.put (e := ⟨s, ps ++ [d], .slice (some ⟨gg, 0, none⟩) (n + 1) gcap⟩) HS.out (w' := w3) ?_ ?_ ?_ hown4 hgrow4
    · show w.grownBy w3 (foV E s.data.toList).ownBlock
      rw [HV.out]; exact G3.out
    · show w3.ownsRow B 9 1 (.slice (some ⟨gg, 0, none⟩) (n + 1) gcap) (ps ++ [d]).length ((ps ++ [d]).map Value.string)
      rw [List.length_append, HN.out, List.map_append]
      exact hown3
    · show (foV E s.data.toList).ownBlock = some gg ∨ _
      rw [HV.out]
      rcases hat with hat | hat
      · exact Or.inl hat
      · exact Or.inr ⟨gg, rfl, by rw [hat]; omega⟩
  have BEL : Hid (Below B w w4) := by
    have b1 : Below B w w3 := (Below.refl B w).grown G3.out hB (fun q hq => (HR.out.lt q hq).1)
    exact b1.grown hgrow4 (Nat.le_trans hB b1.size) (fun q hq => by cases hq; exact HF.out.base)
  clear hHeld hown3 hown4 hgrow hgrow4 HS3
  go_returns
  exact ⟨rfl, ⟨_, FIN.out⟩, BEL.out⟩
end Go.Proofs.Ytanjlpgdmnapdaa
namespace Go.Proofs.Ytanjlpgdmnapdaa
open Go.RowKit Go.Maps
set_option linter.unusedSimpArgs false
set_option linter.unusedVariables false

def joinL (ps : List ByteArray) : ByteArray := ⟨((ps.map (·.data.toList)).flatten).toArray⟩
theorem joinL_size (ps : List ByteArray) : (joinL ps).size = sumZ ps := by
  show ((ps.map (·.data.toList)).flatten).toArray.size = _
  rw [List.size_toArray, List.length_flatten, List.map_map]
  rfl
theorem joinL_one (d : ByteArray) : joinL [d] = d := by
  unfold joinL
  simp
theorem joinL_snoc (ps : List ByteArray) (d : ByteArray) : joinL (ps ++ [d]) = joinL ps ++ d := by
  apply ByteArray.ext
  unfold joinL
  simp
/-- A file of a folder. -/
def feI (x : FE) : FI := ⟨x.n, joinL x.ps⟩
theorem feI_key (x : FE) : fiK (feI x) = feK x := rfl
def dataK (u : List UInt8) (L : List FI) : ByteArray := match getK fiK u L with | some x => x.d | none => ⟨#[]⟩
theorem foP_data (E : List FE) (u : List UInt8) : joinL (foP E u) = dataK u (E.map feI) := by
  rw [foP, dataK, map_getK feI_key]
  cases getK feK u E <;> rfl
def addK (s d : ByteArray) (L : List FI) : List FI := putK fiK ⟨s, dataK s.data.toList L ++ d⟩ L
theorem add_fold (E : List FE) (s d : ByteArray) (v : Value) : (putK feK ⟨s, foP E s.data.toList ++ [d], v⟩ E).map feI = addK s d (E.map feI) := by
  rw [map_putK feI_key, addK, ← foP_data]
  show putK fiK ⟨s, joinL (foP E s.data.toList ++ [d])⟩ _ = _
  rw [joinL_snoc]
/-- The bytes of all. -/
def totL (L : List FI) : Nat := (L.map (·.d.size)).sum
theorem totL_ins (x : FI) : ∀ L : List FI, totL (insK fiK x L) = x.d.size + totL L
  | [] => rfl
  | y :: r => by
    have h := totL_ins x r
    unfold insK
    split
    · simp [totL]
    · simp only [totL, List.map_cons, List.sum_cons] at h ⊢
      rw [h]; omega
theorem totL_cut (u : List UInt8) : ∀ L : List FI, totL (cutK fiK u L) ≤ totL L
  | [] => Nat.le_refl _
  | y :: r => by
    have h := totL_cut u r
    simp only [cutK, totL, List.filter_cons] at h ⊢
    split <;> simp <;> omega
theorem tot_mem {x : FI} : ∀ {L : List FI}, x ∈ L → x.d.size ≤ totL L
  | y :: r, h => by
    simp only [totL, List.map_cons, List.sum_cons]
    rcases List.mem_cons.1 h with rfl | h
    · omega
    · have := tot_mem h
      unfold totL at this
      omega
theorem totL_app (a b : List FI) : totL (a ++ b) = totL a + totL b := by simp [totL]
theorem dataK_le (u : List UInt8) (L : List FI) : (dataK u L).size ≤ totL L := by
  unfold dataK
  cases hg : getK fiK u L with
  | none => exact Nat.zero_le _
  | some x =>
    obtain ⟨h1, _⟩ := getK_some hg
    exact tot_mem h1
theorem totL_cut_get (u : List UInt8) : ∀ L : List FI, totL (cutK fiK u L) + (dataK u L).size ≤ totL L
  | [] => Nat.le_refl _
  | y :: r => by
    by_cases e : fiK y = u
    · have h1 : dataK u (y :: r) = y.d := by simp [dataK, getK, e]
      have h2 := totL_cut u r
      rw [h1]
      simp only [cutK, totL, List.filter_cons, e, List.map_cons, List.sum_cons] at h2 ⊢
      simp; omega
    · have h1 : dataK u (y :: r) = dataK u r := by simp [dataK, getK, e]
      have h2 := totL_cut_get u r
      rw [h1]
      simp only [cutK, totL, List.filter_cons, List.map_cons, List.sum_cons] at h2 ⊢
      simp [e]; omega
theorem totL_add (s d : ByteArray) (L : List FI) : totL (addK s d L) ≤ totL L + d.size := by
  have h := totL_cut_get s.data.toList L
  unfold addK putK
  rw [totL_ins]
  show (dataK s.data.toList L ++ d).size + totL (cutK fiK s.data.toList L) ≤ _
  rw [ByteArray.size_append]
  omega
theorem foP_len {E : List FE} {k : Nat} (h : ∀ x ∈ E, x.ps.length ≤ k) (u : List UInt8) : (foP E u).length ≤ k := by
  unfold foP
  cases hg : getK feK u E with
  | none => exact Nat.zero_le _
  | some x => exact h x (getK_some hg).1

/-- What a folder holds: files L; at most m entries were ever made, each of at most m pieces. -/
def FoldL (w : World) (B b m : Nat) (L : List FI) : Prop := ∃ E, Fold w B b m E ∧ E.map feI = L ∧ ∀ x ∈ E, x.ps.length ≤ m
theorem FoldL.up {w : World} {B b m : Nat} {L : List FI} (h : FoldL w B b m L) : Up fiK L := by
  obtain ⟨E, h1, rfl, _⟩ := h
  have := h1.up
  unfold Up at this ⊢
  rw [List.pairwise_map]
  exact this
theorem FoldL.below {w w' : World} {B b m : Nat} {L : List FI} (h : FoldL w B b m L) (hb : Below w.heap.size w w') : FoldL w' B b m L := by
  obtain ⟨E, h1, h2, h3⟩ := h
  exact ⟨E, h1.below hb, h2, h3⟩
theorem FoldL.mono {w : World} {B B' b m : Nat} {L : List FI} (h : FoldL w B b m L) (hB : B' ≤ B) : FoldL w B' b m L := by
  obtain ⟨E, h1, h2, h3⟩ := h
  exact ⟨E, h1.mono hB, h2, h3⟩
theorem impl_putL {B b m : Nat} {L : List FI} (s d : ByteArray) (w : World) (h : FoldL w B b m L) (hB : B ≤ w.heap.size) (hs : s.size ≤ maxLen) (hm : m < 1073741824) (hd : d.size ≤ 1099511627776) (ht : totL L ≤ 1099511627776) :
    Calls Try.prog 79 #[.map (some b), .string s, .string d] w fun e w' => e = .returned (.tuple #[]) ∧ FoldL w' B b (m + 1) (addK s d L) ∧ Below B w w' := by
  obtain ⟨E, h1, rfl, h3⟩ := h
  have hz : sumZ (foP E s.data.toList) ≤ 1099511627776 := by
    have := dataK_le s.data.toList (E.map feI)
    rw [← foP_data, joinL_size] at this
    omega
  have hl := foP_len h3 s.data.toList
  refine (impl_put s d w h1 hB hs hm hd hz (by omega)).mono ?_
  rintro e w' ⟨rfl, ⟨v, hF⟩, hb⟩
  refine ⟨rfl, ⟨_, hF, add_fold _ _ _ _, fun x hx => ?_⟩, hb⟩
  rcases mem_putK.1 hx with rfl | ⟨h4, _⟩
  · simp; omega
  · have := h3 x h4; omega
theorem take_last {L : List FI} {t : Nat} {x : FI} (hU : Up fiK L) (hx : L[t]? = some x) : addK x.n x.d (L.take t) = L.take (t + 1) := by
  have ht : t < L.length := (List.getElem?_eq_some_iff.1 hx).1
  have hall : ∀ y ∈ L.take t, bytesBefore (fiK y) (fiK x) = true := fun y hy => by
    obtain ⟨i, hi, rfl⟩ := List.getElem_of_mem hy
    have hi' : i < t := by simp at hi; omega
    have hp := List.pairwise_iff_getElem.1 hU i t (by omega) ht hi'
    rw [List.getElem_take]
    have e : L[t] = x := (List.getElem?_eq_some_iff.1 hx).2
    rw [e] at hp
    exact hp
  have hnone : getK fiK x.n.data.toList (L.take t) = none := by
    cases hg : getK fiK x.n.data.toList (L.take t) with
    | none => rfl
    | some y =>
      obtain ⟨h1, h2⟩ := getK_some hg
      exact absurd h2 (bb_ne (hall y h1))
  have hd : dataK x.n.data.toList (L.take t) ++ x.d = x.d := by
    unfold dataK
    rw [hnone]
    apply ByteArray.ext
    simp
  rw [addK, hd, putK_last hall, List.take_add_one, hx]
  rfl
theorem totL_take (L : List FI) (t : Nat) : totL (L.take t) ≤ totL L := by
  have h := totL_app (L.take t) (L.drop t)
  rw [List.take_append_drop] at h
  omega

set_option maxHeartbeats 2000000 in
theorem impl_folderOf {A : Option Addr} {n cap : Nat} {L : List FI} (w : World) (h : FiRow w A L) (hL : L.length = n) (hU : Up fiK L) (hn : n < 1073741824) (hx : ∀ x ∈ L, fiOk x) (ht : totL L ≤ 1099511627776) :
    Calls Try.prog 42 #[.slice A n cap] w fun e w' => e = .returned (.map (some w.heap.size)) ∧ FoldL w' w.heap.size w.heap.size n L ∧ Below w.heap.size w w' := by
  have HR : Hid (FiRow w A L) := h
  have HL : Hid (L.length = n) := hL
  have HU : Hid (Up fiK L) := hU
  have HX : Hid (∀ x ∈ L, fiOk x) := hx
  have HT : Hid (totL L ≤ 1099511627776) := ht
  clear h hL hU hx ht
  have hmm := @run_makeMap Try.prog
  go_enter Try.func42, Try.ntmps42
  go_wp2_with fail
  go_loopw [9] (fun i wr => ∃ t : Nat, t ≤ n ∧ i = .int .i64 t ∧ FoldL wr w.heap.size w.heap.size t (L.take t) ∧ Below w.heap.size w wr) (fun i _ => n - (intOf i).toNat)
  case atStart => exact ⟨0, Nat.zero_le _, rfl, ⟨[], ⟨World.ownsMap_made _ _ _ _, List.Pairwise.nil, Nat.le_refl _, fun x hx => (by cases hx), fun x hx => (by cases hx), fun x hx => (by cases hx)⟩, by simp, fun x hx => (by cases hx)⟩, by go_grown⟩
  case round =>
    obtain ⟨t, ht, rfl, hF, hbel⟩ := hrel
    have HF : Hid (FoldL wr w.heap.size w.heap.size t (L.take t)) := hF
    clear hF
    by_cases hlt : t < n
    · obtain ⟨x, hx⟩ := at_lt HL.out hlt
      have HXT : Hid (L[t]? = some x) := hx
      obtain ⟨b, o, rfl, hl, hc⟩ := HR.out.2 t x hx
      have c0 : w.cell? ⟨b, o + t * 2, none⟩ = some (.string x.n) := hc 0 _ rfl
      have c1 : w.cell? ⟨b, o + t * 2 + 1, none⟩ = some (.string x.d) := hc 1 _ rfl
      clear hc hx
      have hs := hbel.size
      rw [← hbel.cell (p := ⟨_, _, none⟩) hl] at c0 c1
      have hl2 : b < wr.heap.size := Nat.lt_of_lt_of_le hl hs
      have h0 : (0 : Int) ≤ (t : Int) := by omega
      have h1 : (t : Int) < (n : Int) := by omega
      have HB : Hid (Below w.heap.size w wr) := hbel
      clear hbel
      go_wp2_with fail
      refine (impl_putL x.n x.d _ (HF.out.below (by go_grown)) (by simp; omega) ?_ (by omega) ?_ ?_).mono ?_
      · exact (HX.out x (List.mem_of_getElem? HXT.out)).1
      · have h1 := HT.out
        have h2 : x.d.size ≤ totL L := tot_mem (List.mem_of_getElem? HXT.out)
        omega
      · have h1 := HT.out
        have h2 := totL_take L t
        omega
      rintro e w2 ⟨rfl, hF2, hb⟩
      rw [take_last HU.out HXT.out] at hF2
      have HF2 : Hid (FoldL w2 w.heap.size w.heap.size (t + 1) (L.take (t + 1))) := hF2
      have HB2 : Hid (Below w.heap.size w w2) := HB.out.trans (Below.trans (by go_grown) hb)
      clear hb hF2 c0 c1
      go_wp2_with fail
      go_roundw
      case rel => exact ⟨t + 1, by omega, by go_num, HF2.out, HB2.out⟩
      case measure => simp [intOf]; omega
    · have h1 : ¬ (t : Int) < (n : Int) := by omega
      obtain rfl : t = n := by omega
      go_wp2_with fail
      go_ret
      refine ⟨rfl, ?_, hbel⟩
      have := HF.out
      rwa [List.take_of_length_le (by rw [HL.out]; exact Nat.le_refl _)] at this
end Go.Proofs.Ytanjlpgdmnapdaa
namespace Go.Proofs.Ytanjlpgdmnapdaa
open Go.RowKit Go.Maps
set_option linter.unusedSimpArgs false
set_option linter.unusedVariables false

/-- The bytes of those that no longer come. -/
def sumNot (left : Lit → Bool) (E : List FE) : Nat := (E.map fun x => if left (.string (feK x)) = true then 0 else sumZ x.ps).sum
theorem sumNot_start (E : List FE) : sumNot (Maps.has (FD E)) E = 0 := by
  have key : ∀ E' : List FE, (∀ x ∈ E', x ∈ E) → sumNot (Maps.has (FD E)) E' = 0 := by
    intro E'
    induction E' with
    | nil => intro _; rfl
    | cons x r ih =>
      intro h
      have h1 := ih (fun y hy => h y (List.mem_cons_of_mem _ hy))
      have h2 : Maps.has (FD E) (.string (feK x)) = true := by
        rw [FD_has]
        cases hg : getK feK (feK x) E with
        | some y => rfl
        | none => exact absurd rfl (getK_none hg x (h x (List.mem_cons_self ..)))
      simp only [sumNot, List.map_cons, List.sum_cons, h2] at h1 ⊢
      simp [h1]
  exact key E (fun _ h => h)
theorem sumNot_end {left : Lit → Bool} (h : ∀ k, left k = false) (E : List FE) : sumNot left E = totL (E.map feI) := by
  unfold sumNot totL
  rw [List.map_map]
  congr 1
  apply List.map_congr_left
  intro x _
  simp only [h, Bool.false_eq_true, if_false, Function.comp]
  exact (joinL_size x.ps).symm
theorem sumNot_le (left : Lit → Bool) : ∀ E : List FE, sumNot left E ≤ totL (E.map feI)
  | [] => Nat.le_refl _
  | x :: r => by
    have h := sumNot_le left r
    have h2 := joinL_size x.ps
    have h3 : (feI x).d.size = sumZ x.ps := h2
    simp only [sumNot, totL, List.map_cons, List.sum_cons] at h ⊢
    split <;> omega
theorem sumNot_step {left : Lit → Bool} {e : FE} (hl : left (.string (feK e)) = true) : ∀ {E : List FE}, Up feK E → e ∈ E → sumNot (fun z => left z && !z.sameKey (.string (feK e))) E = sumNot left E + sumZ e.ps
  | x :: r, hU, he => by
    cases List.pairwise_cons.1 hU with
    | intro h1 h2 =>
    have same : ∀ r' : List FE, (∀ y ∈ r', feK y ≠ feK e) → sumNot (fun z => left z && !z.sameKey (.string (feK e))) r' = sumNot left r' := by
      intro r' h
      unfold sumNot
      congr 1
      apply List.map_congr_left
      intro y hy
      have : (Lit.string (feK y)).sameKey (.string (feK e)) = false := by
        show (feK y == feK e) = false
        simpa using h y hy
      simp [this]
    by_cases hx : feK x = feK e
    · have hxe : x = e := by
        rcases List.mem_cons.1 he with h | h
        · exact h.symm
        · exact absurd hx (bb_ne (h1 e h))
      subst hxe
      have h3 := same r (fun y hy => (bb_ne (h1 y hy)).symm)
      have h4 : (Lit.string (feK x)).sameKey (.string (feK x)) = true := by show (feK x == feK x) = true; simp
      show (if (left (.string (feK x)) && !(Lit.string (feK x)).sameKey (.string (feK x))) = true then 0 else sumZ x.ps) + sumNot (fun z => left z && !z.sameKey (.string (feK x))) r = (if left (.string (feK x)) = true then 0 else sumZ x.ps) + sumNot left r + sumZ x.ps
      rw [h3, h4, hl]
      simp
      omega
    · have her : e ∈ r := by
        rcases List.mem_cons.1 he with h | h
        · exact absurd (by rw [h]) hx
        · exact h
      have ih := sumNot_step hl h2 her
      have h4 : (Lit.string (feK x)).sameKey (.string (feK e)) = false := by show (feK x == feK e) = false; simpa using hx
      simp only [sumNot, List.map_cons, List.sum_cons, h4, Bool.not_false, Bool.and_true] at ih ⊢
      omega
def fitB (L : List FI) : Bool := decide (L.length ≤ 60) && decide (totL L ≤ 200000)

set_option maxRecDepth 100000 in
set_option maxHeartbeats 2000000 in
theorem impl_fits {B b m : Nat} {L : List FI} (w : World) (h : FoldL w B b m L) (ht : totL L ≤ 1099511627776) (hm : m < 1073741824) :
    Calls Try.prog 52 #[.map (some b)] w fun e w' => e = .returned (.bool (fitB L)) ∧ Below w.heap.size w w' := by
  obtain ⟨E, hF, rfl, _⟩ := h
  have HF : Hid (Fold w B b m E) := hF
  have HT : Hid (totL (E.map feI) ≤ 1099511627776) := ht
  obtain ⟨tt, HTT⟩ : ∃ tt, Hid (totL (E.map feI) = tt) := ⟨_, rfl⟩
  obtain ⟨nn, HNN⟩ : ∃ nn, Hid (E.length = nn) := ⟨_, rfl⟩
  have hnn : nn < 1073741824 := by
    have h1 := hF.own.size_le
    rw [FD_size, HNN.out] at h1
    omega
  have htt : tt ≤ 1099511627776 := by have := HT.out; rw [HTT.out] at this; exact this
  clear hF ht
  go_enter Try.func52, Try.ntmps52
  go_wp2_with (first
    | (at_range; refine wpList_range_own _ rfl _ 71 rfl 9 118 strK Try.underlying71 _ b m _ rfl HF.out.own ?_; intro w0 hrg0 hg0 hs0)
    | go_in)
  go_frame
  have HR0 : Hid (w0.ranges Try.prog 9 pcE b w.heap.size m (FD E) (Maps.has (FD E)) (Maps.size (FD E))) := hrg0
  have HB0 : Hid (Below w.heap.size w w0) := (Below.refl _ _).grown hg0 (Nat.le_refl _) (fun j hj => by cases hj)
  clear hrg0 hg0
  go_loopw [3] (fun q wr => ∃ (left : Lit → Bool) (cnt : Nat), q = .int .i64 (sumNot left E : Nat) ∧ wr.ranges Try.prog 9 pcE b w.heap.size m (FD E) left cnt ∧ Below w.heap.size w wr)
    (fun _ wr => wr.rangeLeft b w.heap.size)
  case atStart => exact ⟨_, _, by rw [sumNot_start]; rfl, HR0.out, HB0.out⟩
  case round =>
    clear HR0 HB0
    obtain ⟨left, cnt, rfl, hrg, hbel⟩ := hrel
    have HRG : Hid (wr.ranges Try.prog 9 pcE b w.heap.size m (FD E) left cnt) := hrg
    have HB : Hid (Below w.heap.size w wr) := hbel
    clear hrg hbel
    obtain ⟨su, HSU⟩ : ∃ su, Hid (sumNot left E = su) := ⟨_, rfl⟩
    have hsu : su ≤ 1099511627776 := by
      have h1 := sumNot_le left E
      have h2 := HT.out
      rw [HSU.out] at h1
      omega
    rw [HSU.out]
    go_wp2_with (first
      | (at_next; refine wpList_next_ranges (α := ByteArray) (β := Value × Int) _ rfl _ rfl 9 strK pcE Value.string (fun c => .agg #[c.1, .int .i64 c.2]) ?k1 ?k2 b w.heap.size m (FD E) left cnt rfl HRG.out ?_ ?_)
      | go_in)
    case k1 =>
      intro key kl hk
      obtain ⟨s, rfl, _⟩ := Go.WideMaps.string_of_keyOf Try.underlying9 hk
      exact ⟨s, rfl⟩
    case k2 =>
      intro v y hv
      obtain ⟨x, z, rfl, _⟩ := pcE_inv hv
      exact ⟨(x, z), rfl⟩
    · intro _ hl0
      have HE : Hid (su = tt) := by
        show su = tt
        rw [← HSU.out, ← HTT.out]
        exact sumNot_end hl0 E
      have HD : Hid (fitB (E.map feI) = (decide ((nn : Int) ≤ 60) && decide ((su : Int) ≤ 200000))) := by
        show _ = _
        rw [HE.out, fitB, HTT.out, List.length_map, HNN.out]
        congr 1
        · exact decide_eq_decide.2 (by omega)
        · exact decide_eq_decide.2 (by omega)
      have hsz : Maps.size (FD E) = nn := by rw [FD_size, HNN.out]
      by_cases h60 : (nn : Int) ≤ 60
      · go_wp2_with (first
          | (at_len; refine wpList_len_own _ rfl _ 71 rfl 9 118 Try.underlying71 _ b m (FD E) rfl HRG.out.owns ?_; rw [hsz])
          | go_in)
        go_ret
        exact ⟨ret_bool (by rw [HD.out]; simp [h60]), HB.out⟩
      · go_wp2_with (first
          | (at_len; refine wpList_len_own _ rfl _ 71 rfl 9 118 Try.underlying71 _ b m (FD E) rfl HRG.out.owns ?_; rw [hsz])
          | go_in)
        go_ret
        exact ⟨ret_bool (by rw [HD.out, decide_eq_false (by omega)]; rfl), HB.out⟩
    · rintro x v c kl y yp w1 cnt1 hkx hlx hv hat hrg1 hlt hg1 hs1 hen
      obtain ⟨e, HEE⟩ : ∃ e : FE, Hid (e ∈ E ∧ kl = .string (feK e) ∧ v = e.v ∧ c = (sumZ e.ps : Nat)) := by
        obtain ⟨s, e1, rfl, _⟩ := Go.WideMaps.string_of_keyOf Try.underlying9 hkx
        obtain ⟨x', z', e2, e3⟩ := pcE_inv hv
        cases e3
        have h3 := hat (.held undef)
        rw [FD_at] at h3
        cases hg : getK feK s.data.toList E with
        | none => rw [hg] at h3; simp at h3; injection e2 with e2; simp at e2; have h4 := hat (.map []); rw [FD_at, hg] at h4; cases h4
        | some e =>
          rw [hg] at h3
          simp only [DataW.held.injEq] at h3
          injection e2 with e2
          injection h3 with h3
          simp at e2 h3
          exact ⟨e, ⟨(getK_some hg).1, by rw [(getK_some hg).2], by rw [e2.1, h3.1], by rw [e2.2, ← h3.2]⟩⟩
      have HRG1 : Hid (w1.ranges Try.prog 9 pcE b w.heap.size m (FD E) (fun z => left z && !z.sameKey kl) cnt1) := hrg1
      have HST : Hid (sumNot (fun z => left z && !z.sameKey kl) E = su + sumZ e.ps) := by
        show _ = _
        rw [HEE.out.2.1, ← HSU.out]
        exact sumNot_step (by rw [← HEE.out.2.1]; exact hlx) HF.out.up HEE.out.1
      have hc0 : (0 : Int) ≤ c := by rw [HEE.out.2.2.2]; omega
      have hc1 : c ≤ 1099511627776 := by
        have h1 := sumNot_le (fun z => left z && !z.sameKey kl) E
        have h2 := HT.out
        rw [HST.out] at h1
        rw [HEE.out.2.2.2]
        omega
      have HVS : Hid (∃ A n cap, v = .slice A n cap) := by
        obtain ⟨A, cap, e1, _⟩ := own_shape (HF.out.rows e HEE.out.1)
        exact ⟨A, _, cap, HEE.out.2.2.1.trans e1⟩
      obtain ⟨vA, vn, vc, rfl⟩ := HVS.out
      have HB1 : Hid (Below w.heap.size w w1) := HB.out.grown hg1 HB.out.size (fun j hj => by cases hj; exact Nat.le_refl _)
      have hen2 : (Instr.entry (.pointer (some ⟨w.heap.size, 0, none⟩))).run Try.prog w1 = .ok (.tuple #[.string x, .agg #[.slice vA vn vc, .int .i64 c]]) w1 := hen
      have hw1 := HB1.out.size
      clear hrg1 hg1 hkx hlx hv hat hen HVS
      go_wp2_with fail
      go_roundw
      case rel => exact ⟨_, cnt1, by rw [HST.out]; congr 1; rw [HEE.out.2.2.2]; omega, HRG1.out.alloc _, by have hb := HB1.out; go_grown⟩
      case measure => rw [(HRG1.out.alloc _).left_eq, HRG.out.left_eq]; exact hlt
end Go.Proofs.Ytanjlpgdmnapdaa
namespace Go.Proofs.Ytanjlpgdmnapdaa
open Go.RowKit Go.Maps
set_option linter.unusedSimpArgs false
set_option linter.unusedVariables false

def filesB (L : List FI) : Bool := decide (L.length ≤ 60) && (ascB L && (L.all (fun x => nameB x.n) && decide (totL L ≤ 200000)))
theorem filesB_up {L : List FI} (h : filesB L = true) : Up fiK L := by
  simp only [filesB, Bool.and_eq_true] at h
  exact (asc_up L).1 h.2.1
theorem tot_lil : ∀ {L : List FI}, (∀ x ∈ L, fiLil x) → totL L ≤ L.length * 1048576
  | [], _ => Nat.zero_le _
  | y :: r, h => by
    have h1 := tot_lil (L := r) (fun x hx => h x (List.mem_cons_of_mem _ hx))
    have h2 := (h y (List.mem_cons_self ..)).2
    simp only [totL, List.map_cons, List.sum_cons, List.length_cons, Nat.add_mul] at h1 ⊢
    omega

set_option maxRecDepth 100000 in
set_option maxHeartbeats 2000000 in
theorem impl_filesOk {A : Option Addr} {n cap : Nat} {L : List FI} (w : World) (h : FiRow w A L) (hL : L.length = n) (hn : n ≤ 1048576) (hx : ∀ x ∈ L, fiLil x) :
    Calls Try.prog 41 #[.slice A n cap] w fun e w' => e = .returned (.bool (filesB L)) ∧ Below w.heap.size w w' := by
  have HR : Hid (FiRow w A L) := h
  have HL : Hid (L.length = n) := hL
  have HX : Hid (∀ x ∈ L, fiLil x) := hx
  clear h hL hx
  by_cases h60 : (60 : Int) < (n : Int)
  · have HE : Hid (filesB L = false) := by
      show _ = _
      rw [filesB, decide_eq_false (by rw [HL.out]; omega)]; rfl
    go_enter Try.func41, Try.ntmps41
    go_wp2_with fail
    go_ret
    exact ⟨ret_bool HE.out.symm, by go_grown⟩
  have h60' : decide (L.length ≤ 60) = true := decide_eq_true (by rw [HL.out]; omega)
  cases hasc : ascB L
  · have HE : Hid (filesB L = false) := by
      show _ = _
      rw [filesB, h60', hasc]; rfl
    have HA : Hid (ascB L = false) := hasc
    clear hasc h60'
    go_enter Try.func41, Try.ntmps41
    go_wp2_with (first
      | (go_at_call 76; refine (impl_risesF _ HR.out HL.out).mono ?_; rintro e w1 ⟨rfl, hb⟩; rw [HA.out]))
    go_ret
    exact ⟨ret_bool HE.out.symm, by go_grown⟩
  have HA : Hid (ascB L = true) := hasc
  have HE : Hid (filesB L = (L.all (fun x => nameB x.n) && decide (totL L ≤ 200000))) := by
    show _ = _
    rw [filesB, h60', hasc]; rfl
  clear hasc h60'
  go_enter Try.func41, Try.ntmps41
  go_wp2_with (first
    | (go_at_call 76; refine (impl_risesF _ HR.out HL.out).mono ?_; rintro e w1 ⟨rfl, hb⟩; rw [HA.out]; have HB1 : Hid (Below w.heap.size w w1) := hb; clear hb))
  go_loopw [15] (fun i wr => ∃ t : Nat, t ≤ n ∧ i = .int .i64 t ∧ (∀ j x, j < t → L[j]? = some x → nameB x.n = true) ∧ Below w.heap.size w wr) (fun i _ => n - (intOf i).toNat)
  case atStart => exact ⟨0, Nat.zero_le _, rfl, fun j x hj => by omega, HB1.out⟩
  case round =>
    clear HB1
    obtain ⟨t, ht, rfl, hall, hbel⟩ := hrel
    have HN : Hid (∀ j x, j < t → L[j]? = some x → nameB x.n = true) := hall
    clear hall
    by_cases hlt : t < n
    · obtain ⟨x, hx⟩ := at_lt HL.out hlt
      have HXT : Hid (L[t]? = some x) := hx
      obtain ⟨b, o, rfl, hl, hc⟩ := HR.out.2 t x hx
      have c0 : w.cell? ⟨b, o + t * 2, none⟩ = some (.string x.n) := hc 0 _ rfl
      have c1 : w.cell? ⟨b, o + t * 2 + 1, none⟩ = some (.string x.d) := hc 1 _ rfl
      clear hc hx
      have hs := hbel.size
      rw [← hbel.cell (p := ⟨_, _, none⟩) hl] at c0 c1
      have hl2 : b < wr.heap.size := Nat.lt_of_lt_of_le hl hs
      have h0 : (0 : Int) ≤ (t : Int) := by omega
      have h1 : (t : Int) < (n : Int) := by omega
      have hsz : x.n.size ≤ maxLen := (fiOk_of (HX.out x (List.mem_of_getElem? HXT.out))).1
      have HSZ : Hid (x.n.size ≤ maxLen) := hsz
      clear hsz
      cases hnm : nameB x.n
      · have HNM : Hid (nameB x.n = false) := hnm
        clear hnm
        go_wp2_with (first
          | (go_at_call 78; refine (impl_isFileName _ _ HSZ.out).mono ?_; rintro e w1 ⟨rfl, rfl⟩; rw [HNM.out]))
        go_ret
        refine ⟨ret_bool ?_, by go_grown⟩
        rw [HE.out]
        have : L.all (fun x => nameB x.n) = false := by
          rw [List.all_eq_false]
          exact ⟨x, List.mem_of_getElem? HXT.out, by simp [HNM.out]⟩
        rw [this]; rfl
      · have HNM : Hid (nameB x.n = true) := hnm
        clear hnm
        go_wp2_with (first
          | (go_at_call 78; refine (impl_isFileName _ _ HSZ.out).mono ?_; rintro e w1 ⟨rfl, rfl⟩; rw [HNM.out]))
        go_roundw
        case rel => exact ⟨t + 1, by omega, by go_num, fun j u hj hu => by
          by_cases e : j = t
          · subst e; rw [HXT.out] at hu; cases hu; exact HNM.out
          · exact HN.out j u (by omega) hu, by go_grown⟩
        case measure => simp [intOf]; omega
    · have h1 : ¬ (t : Int) < (n : Int) := by omega
      obtain rfl : t = n := by omega
      have HALL : Hid (L.all (fun x => nameB x.n) = true) := by
        show _ = _
        rw [List.all_eq_true]
        intro x hx
        obtain ⟨j, hj, e⟩ := List.getElem_of_mem hx
        exact HN.out j x (by rw [← HL.out]; exact hj) (by rw [List.getElem?_eq_getElem hj, e])
      have hT : totL L ≤ 1099511627776 := by
        have h1 := tot_lil HX.out
        rw [HL.out] at h1
        omega
      have HT : Hid (totL L ≤ 1099511627776) := hT
      have HB : Hid (Below w.heap.size w wr) := hbel
      clear hbel hT
      go_wp2_with fail
      refine (impl_folderOf _ (HR.out.below HB.out) HL.out ((asc_up L).1 HA.out) (by omega) (fun x hx => fiOk_of (HX.out x hx)) HT.out).mono ?_
      rintro e w2 ⟨rfl, hF, hb⟩
      have HF : Hid (FoldL w2 wr.heap.size wr.heap.size t L) := hF
      have HB2 : Hid (Below w.heap.size w w2) := bchain HB.out hb
      clear hb hF
      go_wp2_with fail
      refine (impl_fits _ HF.out HT.out (by omega)).mono ?_
      rintro e w3 ⟨rfl, hb⟩
      have HB3 : Hid (Below w.heap.size w w3) := bchain HB2.out hb
      clear hb
      go_wp2_with fail
      go_ret
      refine ⟨ret_bool ?_, HB3.out⟩
      rw [HE.out, HALL.out, fitB, decide_eq_true (by rw [HL.out]; omega)]
end Go.Proofs.Ytanjlpgdmnapdaa
