import Derived.Test.YtbkklapkpiogoaaGreatDoorGbh
import Derived.Maps.Own
import Derived.Maps.OwnOps
import Derived.Maps.OwnSet
import Derived.DeepKeys4
import Derived.Test.YtbkklapkpiogoaaGreatDoorGbi
import Derived.Test.YtbkklapkpiogoaaGreatDoorClG
import Derived.Deep.QuietTactic
import Derived.BigQuiet
import Derived.Deep.RegionHeld3
namespace Go.Proofs.YtbkklapkpiogoaaGreatDoor
open Go.RowKit Go.Maps

theorem rowRef : 47 < Tryz.prog.types.size := by decide +kernel
set_option maxRecDepth 100000 in
theorem wideRef : (match Tryz.prog.underlying 47 with | some (.array _ _) | some (.struct _) => true | _ => false) = true := by kernel_rfl
set_option maxRecDepth 100000 in
theorem ktRef : Tryz.prog.keyTypeAt 2 47 = true := by kernel_rfl
set_option maxRecDepth 100000 in
/-- Places as keys of a map. -/
theorem keyedRef : Keyed Tryz.prog 47 := Keyed.of_law (deep_law_laid laidOut (m := 2) (by omega) rowRef ktRef wideRef)
theorem cellsRefS : Tryz.prog.cellsOf 47 = 2 := by kernel_rfl
theorem cellsIntS : Tryz.prog.cellsOf 2 = 1 := by kernel_rfl
theorem ktypRef : Tryz.prog.keyType 47 = true := by kernel_rfl
set_option maxRecDepth 100000 in
theorem key_ref (c r : Int) (hc : (Lit.int .i64 c).wf = true) (hr : (Lit.int .i64 r).wf = true) : ∃ l, keyOf Tryz.prog 47 (.agg #[.int .i64 c, .int .i64 r]) = some l := by
  have hF : Value.formed Tryz.prog 47 (Value.agg #[Value.int IntKind.i64 c, Value.int IntKind.i64 r]) = true := by
    simp [Value.formed, Tryz.underlying47, cellsRefS]
  obtain ⟨d, hd⟩ : ∃ d, Tryz.prog.types.size = d + 1 := ⟨Tryz.prog.types.size - 1, by have := rowRef; omega⟩
  unfold keyOf
  simp only [Tryz.underlying47, ktypRef, hF, Bool.and_true, if_true, Value.cells]
  rw [hd]
  simp [Program.keyLits, Tryz.underlying47, Tryz.underlying2, cellsRefS, cellsIntS, hc, hr]
/-- An element as it lies. -/
def rawE (v : Value) : Option (DataW Value × List MemPlace) := some (.held v, [])
/-- The cells by their places, as the map's datum. -/
def clD (kl : Nat → Lit) (C R : Nat → Int) (S : Nat → ByteArray) : Nat → DataW Value
  | 0 => .map []
  | n + 1 => (clD kl C R S n).put (kl n) (.held (.agg #[.int .i64 (C n), .int .i64 (R n), .string (S n)]))
theorem clD_isMap (kl : Nat → Lit) (C R : Nat → Int) (S : Nat → ByteArray) : ∀ n, IsMap (clD kl C R S n)
  | 0 => ⟨_, rfl⟩
  | n + 1 => by
    obtain ⟨es, he⟩ := clD_isMap kl C R S n
    unfold clD
    rw [he]
    exact ⟨_, rfl⟩

set_option maxRecDepth 100000 in
set_option maxHeartbeats 4000000 in
theorem impl_cellMapOf {A : Option Addr} {n cap : Nat} {C R : Nat → Int} {S : Nat → ByteArray} {kl : Nat → Lit} (w : World) (h : ClRow w A n C R S) (hn : n ≤ 120) (hkl : ∀ i, i < n → keyOf Tryz.prog 47 (.agg #[.int .i64 (C i), .int .i64 (R i)]) = some (kl i)) :
    Calls Tryz.prog 63 #[.slice A n cap] w fun e w' => e = .returned (.map (some w.heap.size)) ∧ w'.ownsMap Tryz.prog 47 rawE w.heap.size n (clD kl C R S n) ∧ Below w.heap.size w w' := by
  have HR : Hid (ClRow w A n C R S) := h
  have HK : Hid (∀ i, i < n → keyOf Tryz.prog 47 (.agg #[.int .i64 (C i), .int .i64 (R i)]) = some (kl i)) := hkl
  clear h hkl
  have hmm := @run_makeMap Tryz.prog
  go_enter Tryz.func63, Tryz.ntmps63
  go_wp2_with fail
  go_loopw [9] (fun i wr => ∃ k : Nat, k ≤ n ∧ i = .int .i64 k ∧ wr.ownsMap Tryz.prog 47 rawE w.heap.size k (clD kl C R S k) ∧ Below w.heap.size w wr) (fun i _ => n - (intOf i).toNat)
  case atStart => exact ⟨0, Nat.zero_le _, rfl, World.ownsMap_made _ _ _ _, by go_grown⟩
  case round =>
    obtain ⟨k, hk, rfl, hown, hbel⟩ := hrel
    have HW : Hid (wr.ownsMap Tryz.prog 47 rawE w.heap.size k (clD kl C R S k)) := hown
    clear hown
    by_cases hlt : k < n
    · obtain ⟨b, o, rfl, hl, c0, c1, c2, _⟩ := HR.out.2 k hlt
      have hs := hbel.size
      rw [← hbel.cell (p := ⟨_, _, none⟩) hl] at c0 c1 c2
      have hl2 : b < wr.heap.size := Nat.lt_of_lt_of_le hl hs
      have h0 : (0 : Int) ≤ (k : Int) := by omega
      have h1 : (k : Int) < (n : Int) := by omega
      go_wp2_with (first
        | (at_mapUpdate; refine wpList_mapUpdate_own _ rfl _ _ _ 93 rfl 47 84 keyedRef Tryz.underlying93 rawE w.heap.size k _ rfl (HW.out.alloc _) (by unfold maxLen; omega) _ _ (kl k) rfl rfl (HK.out k hlt) _ [] rfl ?_; intro w1 hown1 hgrow1)
        | go_in)
      have R2 : Below w.heap.size w w1 := Below.grown (hbel.alloc hs _) hgrow1 (by simp; omega) (fun j hj => by cases hj; exact Nat.le_refl _)
      go_roundw
      case rel => exact ⟨k + 1, by omega, by go_num, hown1, R2⟩
      case measure => simp [intOf]; omega
    · have h1 : ¬ (k : Int) < (n : Int) := by omega
      obtain rfl : k = n := by omega
      go_wp2_with fail
      go_ret
      exact ⟨rfl, HW.out, hbel⟩

/-! ### What a map of cells says -/
theorem wf_small {n : Int} (h1 : 0 ≤ n) (h2 : n ≤ 1000) : (Lit.int .i64 n).wf = true := WalkArith.wf_i64 (by omega)
theorem rise_ok {C R : Nat → Int} {n : Nat} (h : ∀ i, i < n → refOkB (C i) (R i) = true) : ∃ kl : Nat → Lit, ∀ i, i < n → keyOf Tryz.prog 47 (.agg #[.int .i64 (C i), .int .i64 (R i)]) = some (kl i) := by
  have key : ∀ i, ∃ l, i < n → keyOf Tryz.prog 47 (.agg #[.int .i64 (C i), .int .i64 (R i)]) = some l := fun i => by
    by_cases hi : i < n
    · have h1 := h i hi
      simp only [refOkB, decide_eq_true_eq] at h1
      obtain ⟨l, hl⟩ := key_ref (C i) (R i) (wf_small (by omega) (by omega)) (wf_small (by omega) (by omega))
      exact ⟨l, fun _ => hl⟩
    · exact ⟨.bool true, fun h => absurd h hi⟩
  exact ⟨fun i => Classical.choose (key i), fun i hi => Classical.choose_spec (key i) hi⟩
/-- The source at a place: of the last cell that has it. -/
def srcL (C R : Nat → Int) (S : Nat → ByteArray) (p q : Int) : Nat → ByteArray
  | 0 => ⟨#[]⟩
  | n + 1 => if C n = p ∧ R n = q then S n else srcL C R S p q n
theorem clD_at {C R : Nat → Int} {S : Nat → ByteArray} {kl : Nat → Lit} {p q : Int} {l : Lit} (hl : keyOf Tryz.prog 47 (.agg #[.int .i64 p, .int .i64 q]) = some l) : ∀ n : Nat, (∀ i, i < n → keyOf Tryz.prog 47 (.agg #[.int .i64 (C i), .int .i64 (R i)]) = some (kl i)) →
    ∃ c r, (clD kl C R S n).atKey l (.held (.agg #[.int .i64 0, .int .i64 0, .string ⟨#[]⟩])) = .held (.agg #[.int .i64 c, .int .i64 r, .string (srcL C R S p q n)])
  | 0, _ => ⟨0, 0, rfl⟩
  | n + 1, h => by
    unfold clD
    by_cases e : C n = p ∧ R n = q
    · have hk := h n (by omega)
      rw [e.1, e.2, hl] at hk
      rw [← Option.some.inj hk, atKey_put_same (clD_isMap kl C R S n) (keyedRef.key hl)]
      exact ⟨C n, R n, by rw [srcL, if_pos e]⟩
    · have hne : l ≠ kl n := fun e2 => by
        have hk := h n (by omega)
        rw [← e2] at hk
        have := keyedRef.inj hk hl
        simp at this
        exact e this
      rw [atKey_put_other hne]
      obtain ⟨c, r, hcr⟩ := clD_at hl n (fun i hi => h i (by omega))
      exact ⟨c, r, by rw [hcr, srcL, if_neg e]⟩
end Go.Proofs.YtbkklapkpiogoaaGreatDoor

namespace Go.Proofs.YtbkklapkpiogoaaGreatDoor
open Go.RowKit Go.Maps
set_option linter.unusedSimpArgs false
set_option linter.unusedVariables false

set_option maxRecDepth 100000 in
theorem zeroCell (w : World) : (zeroValue 84).run Tryz.prog w = .ok (.agg #[.int .i64 0, .int .i64 0, .string ⟨#[]⟩]) w := by kernel_rfl
set_option maxRecDepth 100000 in
theorem cell_src (c r : Int) (s : ByteArray) (w : World) : (Instr.field 84 (.agg #[.int .i64 c, .int .i64 r, .string s]) 1).run Tryz.prog w = .ok (.string s) w := by kernel_rfl
theorem clOk_facts {C R : Nat → Int} {S : Nat → ByteArray} {n : Nat} (h : clOkB C R S n = true) : n ≤ 120 ∧ riseB C R n = true := by
  unfold clOkB at h
  simp only [Bool.and_eq_true, decide_eq_true_eq] at h
  exact h.1
theorem rise_all {C R : Nat → Int} {n : Nat} (h : riseB C R n = true) : ∀ i, i < n → riseAt C R i = true := by
  unfold riseB at h
  rw [List.all_eq_true] at h
  exact fun i hi => h i (List.mem_range.2 hi)
theorem rise_ref {C R : Nat → Int} {n : Nat} (h : riseB C R n = true) : ∀ i, i < n → refOkB (C i) (R i) = true := fun i hi => by
  have := rise_all h i hi
  unfold riseAt at this
  simp only [Bool.and_eq_true] at this
  exact this.1
/-- What SourceAt answers. -/
def srcO (C R : Nat → Int) (S : Nat → ByteArray) (n : Nat) (p q : Int) : ByteArray := if clOkB C R S n then srcL C R S p q n else ⟨#[]⟩
theorem look_cell {W : World} {b n : Nat} {D : DataW Value} {p q : Int} {l : Lit} {v : Value} (hown : W.ownsMap Tryz.prog 47 rawE b n D) (hl : keyOf Tryz.prog 47 (.agg #[.int .i64 p, .int .i64 q]) = some l)
    (hv : D.atKey l (.held (.agg #[.int .i64 0, .int .i64 0, .string ⟨#[]⟩])) = .held v) : (Instr.lookup 93 (.map (some b)) (.agg #[.int .i64 p, .int .i64 q]) false).run Tryz.prog W = .ok v W := by
  obtain ⟨u, ps, h1, h2⟩ := hown.lookup keyedRef Tryz.underlying93 (zeroCell W) (rfl : rawE _ = some (.held _, [])) hl
  rw [hv] at h2
  unfold rawE at h2
  simp at h2
  rw [h1, h2.1]

set_option maxRecDepth 100000 in
set_option maxHeartbeats 4000000 in
theorem impl_SourceAt {A : Option Addr} {n cap : Nat} {C R : Nat → Int} {S : Nat → ByteArray} (p q : Int) (w : World) (h : ClRow w A n C R S) (hg : GI w) (hp : (Lit.int .i64 p).wf = true) (hq : (Lit.int .i64 q).wf = true) :
    Calls Tryz.prog 28 #[.slice A n cap, .agg #[.int .i64 p, .int .i64 q]] w fun e w' => e = .returned (.string (srcO C R S n p q)) ∧ Below w.heap.size w w' := by
  have HR : Hid (ClRow w A n C R S) := h
  have HG : Hid (GI w) := hg
  clear h hg
  cases hok : clOkB C R S n
  · have HOK : Hid (clOkB C R S n = false) := hok
    have HF : Hid (srcO C R S n p q = ⟨#[]⟩) := by show _ = _; unfold srcO; rw [hok]; exact (rfl : _ = _)
    clear hok
    go_enter Tryz.func28, Tryz.ntmps28
    go_wp2_with (go_at_call 20; refine (impl_SheetOk _ (HR.out.below (by go_grown)) (HG.out.below (by go_grown))).mono ?_; rintro e w1 ⟨rfl, hb⟩; rw [HOK.out]; obtain ⟨hc, hf, hC, hF, hz, hk, l0⟩ := bk1 (w := w) (by go_grown) (by go_size) hb; clear hb)
    go_ret
    exact ⟨ret_str HF.out.symm, by go_grown⟩
  have HOK : Hid (clOkB C R S n = true) := hok
  have HF : Hid (srcO C R S n p q = srcL C R S p q n) := by show _ = _; unfold srcO; rw [hok, if_pos rfl]
  obtain ⟨h120, hrs⟩ := clOk_facts hok
  obtain ⟨kl, hkl⟩ := rise_ok (rise_ref hrs)
  obtain ⟨l, hl⟩ := key_ref p q hp hq
  obtain ⟨c, r, hcr⟩ := clD_at (S := S) hl n hkl
  have HKL : Hid (∀ i, i < n → keyOf Tryz.prog 47 (.agg #[.int .i64 (C i), .int .i64 (R i)]) = some (kl i)) := hkl
  have HL : Hid (keyOf Tryz.prog 47 (.agg #[.int .i64 p, .int .i64 q]) = some l) := hl
  have HCR : Hid (_ = _) := hcr
  clear hok hrs hkl hl hcr
  obtain ⟨s, HS⟩ : ∃ s : ByteArray, Hid (s = srcL C R S p q n) := ⟨_, rfl⟩
  rw [← HS.out] at HCR HF
  go_enter Tryz.func28, Tryz.ntmps28
  go_wp2_with (go_at_call 20; refine (impl_SheetOk _ (HR.out.below (by go_grown)) (HG.out.below (by go_grown))).mono ?_; rintro e w1 ⟨rfl, hb⟩; rw [HOK.out]; have HR1 : Hid (ClRow w1 A n C R S) := (HR.out.below (by go_grown)).below hb; obtain ⟨hc, hf, hC, hF, hz, hk, l0⟩ := bk1 (w := w) (by go_grown) (by go_size) hb; clear hb)
  have d0 : w1.cell? ⟨w.heap.size, 0, none⟩ = some (.int .i64 p) := by rw [hc _ _ (by omega)]; simp
  have d1 : w1.cell? ⟨w.heap.size, 1, none⟩ = some (.int .i64 q) := by rw [hc _ _ (by omega)]; simp
  refine wp_region_held_drew (S := (fun w' => (∀ bq oq, bq < w1.heap.size → w'.cell? ⟨bq, oq, none⟩ = w1.cell? ⟨bq, oq, none⟩) ∧ w1.heap.size ≤ w'.heap.size ∧ Below w1.heap.size w1 w')) (by kernel_rfl) (sc_of (by go_size) (by go_grown)) (fun hHeld => ?_)
  refine wpAnyH_take (i := 0) (v := ?_) rfl (by kernel_rfl) (by kernel_rfl) (by kernel_rfl) (fun _ _ _ h => h) (Or.inl ⟨by rfl, ?_⟩) (by assumption) ?_
  rotate_left
  · (intro wq hSw; (try dsimp only at hSw); go_simp <;> with_reducible rfl)
  try simp only [Act.put, List.getElem_toArray, List.getElem_cons_zero, List.getElem_cons_succ, List.setIfInBounds_toArray, List.set_cons_zero, List.set_cons_succ]
  refine wpAnyH_take (i := 2) (v := ?_) rfl (by kernel_rfl) (by kernel_rfl) (by kernel_rfl) (fun _ _ _ h => h) (Or.inl ⟨by rfl, ?_⟩) (by assumption) ?_
  rotate_left
  · (intro wq hSw; (try dsimp only at hSw); go_simp <;> with_reducible rfl)
  try simp only [Act.put, List.getElem_toArray, List.getElem_cons_zero, List.getElem_cons_succ, List.setIfInBounds_toArray, List.set_cons_zero, List.set_cons_succ]
  refine wpAnyH_ready (rs := [1]) (by kernel_rfl) (by simp) (AllReadyH.cons rfl (fun Kq hKq => ?_) AllReadyH.nil)
  go_simp
  refine (impl_cellMapOf _ (HR1.out.below (by go_grown)) h120 HKL.out).mono ?_
  rintro e w2 ⟨rfl, hown, hb⟩
  have hrun : (Instr.lookup 93 (.map (some w1.heap.size)) (.agg #[.int .i64 p, .int .i64 q]) false).run Tryz.prog w2 = .ok (.agg #[.int .i64 c, .int .i64 r, .string s]) w2 := look_cell hown HL.out HCR.out
  obtain ⟨hk1, hz1⟩ := bframe (B := w1.heap.size) (X := w1) (by go_grown) (by go_size) hb
  clear hb hown
  refine hKq.out _ _ (sc_of (by go_size) (by go_grown)) (fun hHeld => ?_)
  clear hKq Kq
  try simp only [Act.put, List.getElem_toArray, List.getElem_cons_zero, List.getElem_cons_succ, List.setIfInBounds_toArray, List.set_cons_zero, List.set_cons_succ]
  refine wpAnyH_ready (rs := [3]) (by kernel_rfl) (by simp) (AllReadyH.cons rfl (fun Kq hKq => ?_) AllReadyH.nil)
  go_simp
  refine hKq.out _ _ (sc_of (by go_size) (by go_grown)) (fun hHeld => ?_)
  clear hKq Kq
  try simp only [Act.put, List.getElem_toArray, List.getElem_cons_zero, List.getElem_cons_succ, List.setIfInBounds_toArray, List.set_cons_zero, List.set_cons_succ]
  have hfl := cell_src c r s
  refine wpAnyH_take (i := 4) (v := ?_) rfl (by kernel_rfl) (by kernel_rfl) (by kernel_rfl) (fun _ _ _ h => h) (Or.inl ⟨by rfl, ?_⟩) (by assumption) ?_
  rotate_left
  · (intro wq hSw; (try dsimp only at hSw); go_simp <;> with_reducible rfl)
  try simp only [Act.put, List.getElem_toArray, List.getElem_cons_zero, List.getElem_cons_succ, List.setIfInBounds_toArray, List.set_cons_zero, List.set_cons_succ]
  refine wpAnyH_take (i := 5) (v := ?_) rfl (by kernel_rfl) (by kernel_rfl) (by kernel_rfl) (fun _ _ _ h => h) (Or.inl ⟨by rfl, ?_⟩) (by assumption) ?_
  rotate_left
  · (intro wq hSw; (try dsimp only at hSw); go_simp <;> with_reducible rfl)
  try simp only [Act.put, List.getElem_toArray, List.getElem_cons_zero, List.getElem_cons_succ, List.setIfInBounds_toArray, List.set_cons_zero, List.set_cons_succ]
  refine wpAnyH_done (by kernel_rfl) ?_ _
  go_wp2_with fail
  go_ret
  exact ⟨ret_str HF.out.symm, bchain hk (by go_grown)⟩
end Go.Proofs.YtbkklapkpiogoaaGreatDoor

namespace Go.Proofs.YtbkklapkpiogoaaGreatDoor
open Go.RowKit Go.Maps
set_option linter.unusedSimpArgs false
set_option linter.unusedVariables false

theorem bdrN {n : Nat} {w W : World} (h : Below n w W) (k : Nat) : Below n w (W.drewN k) := by
  induction k with
  | zero => exact h
  | succ k ih => first | exact ih.drew | (rw [World.drewN_succ]; exact ih.drew)
/-! ### Rising places are no two alike: the first cell with a place is the last -/
theorem ahead_trans {a b c d e f : Int} (h1 : aheadB a b c d = true) (h2 : aheadB c d e f = true) : aheadB a b e f = true := by
  simp only [aheadB, decide_eq_true_eq] at *
  omega
theorem rise_lt {C R : Nat → Int} {n : Nat} (h : riseB C R n = true) : ∀ j, j < n → ∀ i, i < j → aheadB (C i) (R i) (C j) (R j) = true := by
  intro j
  induction j with
  | zero => intro _ i hi; omega
  | succ j ih =>
    intro hj i hi
    have h1 := rise_all h (j + 1) hj
    unfold riseAt at h1
    simp only [Bool.and_eq_true, Bool.or_eq_true, decide_eq_true_eq] at h1
    have h2 : aheadB (C j) (R j) (C (j + 1)) (R (j + 1)) = true := by
      rcases h1.2 with h3 | h3
      · omega
      · simpa using h3
    by_cases e : i = j
    · subst e; exact h2
    · exact ahead_trans (ih (by omega) i (by omega)) h2
theorem srcL_none {C R : Nat → Int} {S : Nat → ByteArray} {p q : Int} : ∀ n : Nat, (∀ i, i < n → ¬ (C i = p ∧ R i = q)) → srcL C R S p q n = ⟨#[]⟩
  | 0, _ => rfl
  | n + 1, h => by rw [srcL, if_neg (h n (by omega)), srcL_none n (fun i hi => h i (by omega))]
theorem srcL_at {C R : Nat → Int} {S : Nat → ByteArray} {n k : Nat} (h : riseB C R n = true) (hk : k < n) : ∀ m, k < m → m ≤ n → srcL C R S (C k) (R k) m = S k := by
  intro m
  induction m with
  | zero => intro h1; omega
  | succ m ih =>
    intro h1 h2
    by_cases e : k = m
    · subst e; rw [srcL, if_pos ⟨rfl, rfl⟩]
    · have h3 := rise_lt h m (by omega) k (by omega)
      simp only [aheadB, decide_eq_true_eq] at h3
      rw [srcL, if_neg (by omega)]
      exact ih (by omega) (by omega)

set_option maxRecDepth 100000 in
set_option maxHeartbeats 4000000 in
theorem spec_l5At {A : Option Addr} {n cap : Nat} {C R : Nat → Int} {S : Nat → ByteArray} (p q : Int) (w : World) (h : ClRow w A n C R S) (hrs : riseB C R n = true) :
    Calls Tryz.prog 67 #[.slice A n cap, .agg #[.int .i64 p, .int .i64 q]] w fun e w' => e = .returned (.string (srcL C R S p q n)) ∧ Below w.heap.size w w' := by
  have HR : Hid (ClRow w A n C R S) := h
  have HRS : Hid (riseB C R n = true) := hrs
  have hn := h.1
  unfold maxLen at hn
  clear h hrs
  go_enter Tryz.func67, Tryz.ntmps67
  go_wp2_with fail
  go_loopw [5] (fun i wr => ∃ k : Nat, k ≤ n ∧ i = .int .i64 k ∧ (∀ j, j < k → ¬ (C j = p ∧ R j = q)) ∧ Below w.heap.size w wr ∧ Below (w.heap.size + 1) (w.alloc (.cells #[.int .i64 p, .int .i64 q] 47)) wr) (fun i _ => n - (intOf i).toNat)
  case atStart => exact ⟨0, Nat.zero_le _, rfl, fun i hi => by omega, by go_grown, Below.refl _ _⟩
  case round =>
    obtain ⟨k, hk, rfl, hr, hbel, hbx⟩ := hrel
    have HI : Hid (∀ j, j < k → ¬ (C j = p ∧ R j = q)) := hr
    clear hr
    have hs := hbel.size
    have hsx : w.heap.size + 1 ≤ wr.heap.size := Nat.le_trans (by go_size) hbx.size
    have e0 : wr.cell? ⟨w.heap.size, 0, none⟩ = some (.int .i64 p) := (hbx.cell (p := ⟨_, _, none⟩) (by simp)).trans (by simp)
    have e1 : wr.cell? ⟨w.heap.size, 1, none⟩ = some (.int .i64 q) := (hbx.cell (p := ⟨_, _, none⟩) (by simp)).trans (by simp)
    have l0 : w.heap.size < wr.heap.size := by omega
    have HB : Hid (Below w.heap.size w wr) := hbel
    have HX : Hid (Below (w.heap.size + 1) (w.alloc (.cells #[.int .i64 p, .int .i64 q] 47)) wr) := hbx
    by_cases hlt : k < n
    · obtain ⟨b, o, rfl, hl, c0, c1, c2, _⟩ := HR.out.2 k hlt
      rw [← hbel.cell (p := ⟨_, _, none⟩) hl] at c0 c1 c2
      clear hbel hbx
      have hl2 : b < wr.heap.size := Nat.lt_of_lt_of_le hl hs
      have h0 : (0 : Int) ≤ (k : Int) := by omega
      have h1 : (k : Int) < (n : Int) := by omega
      by_cases hc : C k = p
      · by_cases hd : R k = q
        · have HF : Hid (srcL C R S p q n = S k) := by show _ = _; rw [← hc, ← hd]; exact srcL_at HRS.out hlt n hlt (Nat.le_refl _)
          have t1 : (C k == p) = true := by simpa using hc
          have t2 : (R k == q) = true := by simpa using hd
          clear hc hd
          go_wp2_with fail
          go_quiet (fail)
          all_goals go_wp2_with fail
          all_goals go_ret
          all_goals exact ⟨ret_str HF.out.symm, bdrN HB.out _⟩
        · have HI' : Hid (∀ j, j < k + 1 → ¬ (C j = p ∧ R j = q)) := fun j hj => by
            by_cases e : j = k
            · subst e; exact fun h => hd h.2
            · exact HI.out j (by omega)
          have t1 : (C k == p) = true := by simpa using hc
          have t2 : (R k == q) = false := by simpa using hd
          clear hc hd
          go_wp2_with fail
          go_quiet (fail)
          all_goals go_wp2_with fail
          all_goals
            go_roundw
            case rel => exact ⟨k + 1, by omega, by go_num, HI'.out, bdrN HB.out _, bdrN HX.out _⟩
            case measure => simp [intOf]; omega
      · have HI' : Hid (∀ j, j < k + 1 → ¬ (C j = p ∧ R j = q)) := fun j hj => by
          by_cases e : j = k
          · subst e; exact fun h => hc h.1
          · exact HI.out j (by omega)
        have t1 : (C k == p) = false := by simpa using hc
        go_wp2_with fail
        go_quiet (fail)
        all_goals go_wp2_with fail
        all_goals
          go_roundw
          case rel => exact ⟨k + 1, by omega, by go_num, HI'.out, bdrN HB.out _, bdrN HX.out _⟩
          case measure => simp [intOf]; omega
    · have h1 : ¬ (k : Int) < (n : Int) := by omega
      obtain rfl : k = n := by omega
      go_wp2_with fail
      go_ret
      exact ⟨ret_str (srcL_none k HI.out).symm, HB.out⟩

set_option maxRecDepth 100000 in
set_option maxHeartbeats 2000000 in
theorem spec_SourceAt {A : Option Addr} {n cap : Nat} {C R : Nat → Int} {S : Nat → ByteArray} (p q : Int) (w : World) (h : ClRow w A n C R S) :
    Calls Tryz.prog 27 #[.slice A n cap, .agg #[.int .i64 p, .int .i64 q]] w fun e w' => e = .returned (.string (srcO C R S n p q)) ∧ Below w.heap.size w w' := by
  have HR : Hid (ClRow w A n C R S) := h
  clear h
  cases hok : clOkB C R S n
  · have HOK : Hid (clOkB C R S n = false) := hok
    have HF : Hid (srcO C R S n p q = ⟨#[]⟩) := by show _ = _; unfold srcO; rw [hok]; exact (rfl : _ = _)
    clear hok
    go_enter Tryz.func27, Tryz.ntmps27
    go_wp2_with (go_at_call 18; refine (spec_SheetOk _ (HR.out.below (by go_grown))).mono ?_; rintro e w1 ⟨rfl, hb⟩; rw [HOK.out]; obtain ⟨hc, hf, hC, hF, hz, hk, l0⟩ := bk1 (w := w) (by go_grown) (by go_size) hb; clear hb)
    go_ret
    exact ⟨ret_str HF.out.symm, by go_grown⟩
  have HOK : Hid (clOkB C R S n = true) := hok
  have HF : Hid (srcO C R S n p q = srcL C R S p q n) := by show _ = _; unfold srcO; rw [hok, if_pos rfl]
  have HRS : Hid (riseB C R n = true) := (clOk_facts hok).2
  clear hok
  go_enter Tryz.func27, Tryz.ntmps27
  go_wp2_with (first
    | (go_at_call 18; refine (spec_SheetOk _ (HR.out.below (by go_grown))).mono ?_; rintro e w1 ⟨rfl, hb⟩; rw [HOK.out]; have HR1 : Hid (ClRow w1 A n C R S) := (HR.out.below (by go_grown)).below hb; obtain ⟨hc, hf, hC, hF, hz, hk, l0⟩ := bk1 (w := w) (by go_grown) (by go_size) hb; clear hb)
    | (go_at_call 67; refine (spec_l5At _ _ _ HR1.out HRS.out).mono ?_; rintro e w2 ⟨rfl, hb⟩; rw [← HF.out]; have hk2 := bchain hk hb; clear hb))
  go_ret
  exact ⟨rfl, hk2⟩
end Go.Proofs.YtbkklapkpiogoaaGreatDoor

namespace Go.Proofs.YtbkklapkpiogoaaGreatDoor
open Go.RowKit

theorem cyA {W w' : World} {b o : Nat} {x : Value} (hb : Below W.heap.size W w') (c : W.cell? ⟨b, o, none⟩ = some x) : w'.cell? ⟨b, o, none⟩ = some x :=
  (hb.cell (p := ⟨b, o, none⟩) (World.block_lt_of_cell? W ⟨b, o, none⟩ c)).trans c
set_option maxRecDepth 100000 in
set_option maxHeartbeats 8000000 in
theorem law_FnExactSourceAt (A : Option Addr) (n cap : Nat) (C R : Nat → Int) (S : Nat → ByteArray) (p q : Int) (w : World) (h : ClRow w A n C R S) (hp : (Lit.int .i64 p).wf = true) (hq : (Lit.int .i64 q).wf = true) (hg : GI w) : Calls Tryz.prog 6 #[.slice A n cap, .agg #[.int .i64 p, .int .i64 q]] w fun e w' =>
    e = .returned (.bool true) ∧ Below w.heap.size w w' := by
  have HR : Hid (ClRow w A n C R S) := h
  have HS : Hid (∀ i, i < n → (S i).size ≤ maxLen) := fun i hi => by obtain ⟨_, _, _, _, _, _, _, hs⟩ := h.2 i hi; exact hs
  have HG : Hid (GI w) := hg
  have HP : Hid ((Lit.int .i64 p).wf = true) := hp
  have HQ : Hid ((Lit.int .i64 q).wf = true) := hq
  clear h hg hp hq
  go_enter Tryz.func6, Tryz.ntmps6
  go_wp2_with fail
  refine (laws_szCellS _ (HR.out.below (by go_grown))).mono ?_
  rintro e wz ⟨z, rfl, hz, hb⟩
  obtain ⟨hk, hz1⟩ := bframe (B := w.heap.size + 1) (X := (w.alloc (.cells #[.int .i64 p, .int .i64 q] 44))) (by go_grown) (by go_size) hb
  clear hb
  by_cases hneg : z < 0
  · go_wp2_with fail
    go_ret
    exact ⟨rfl, bfin (n := 1) (X := (w.alloc (.cells #[.int .i64 p, .int .i64 q] 44))) (by go_grown) (by go_grown)⟩
  have hn : n ≤ 1048576 := hz (by omega)
  have HN : Hid (n ≤ 1048576) := hn
  clear hn hz
  have hc : ∀ b o, b < w.heap.size + 1 → wz.cell? ⟨b, o, none⟩ = (w.alloc (.cells #[.int .i64 p, .int .i64 q] 44)).cell? ⟨b, o, none⟩ := fun b o h => hk.cell (p := ⟨b, o, none⟩) h
  go_upto_region 5 with fail
  go_cut [6] (fun v5 wx => v5 = .string (srcO C R S n p q) ∧ Below (w.heap.size + 1) (w.alloc (.cells #[.int .i64 p, .int .i64 q] 44)) wx ∧ w.heap.size + 1 ≤ wx.heap.size)
  case first =>
    go_region_held3 (fun w' => (∀ bq oq, bq < w.heap.size + 1 → w'.cell? ⟨bq, oq, none⟩ = (w.alloc (.cells #[.int .i64 p, .int .i64 q] 44)).cell? ⟨bq, oq, none⟩) ∧ w.heap.size + 1 ≤ w'.heap.size ∧ Below (w.heap.size + 1) (w.alloc (.cells #[.int .i64 p, .int .i64 q] 44)) w')
      (exact sc_of (by go_size) (by go_grown))
      (first
      | (go_at_call 19; refine (laws_toCellS (C := C) (R := R) (S := S) _ ?_ HN.out).mono ?_; (focus (exact HR.out.below (bfin (n := 1) (X := (w.alloc (.cells #[.int .i64 p, .int .i64 q] 44))) (by go_grown) (by go_grown)))); rintro e w1 ⟨v, rfl, ho, hb⟩; obtain ⟨A1, cap1, rfl, _, _⟩ := own_shape ho; have R1 : Hid (ClRow w1 A1 n C R S) := cl_of_own ho HS.out; clear ho; obtain ⟨hk, hz⟩ := bframe (B := w.heap.size + 1) (X := (w.alloc (.cells #[.int .i64 p, .int .i64 q] 44))) (by go_grown) (by go_size) hb; clear hb)
      | (go_at_call 23; refine (laws_toRef _ _ _).mono ?_; rintro e w1 ⟨rfl, hb⟩; have HT := Hid.out (p := Hid (Below _ _ w1)) hb; obtain ⟨hk, hz⟩ := bframe (B := w.heap.size + 1) (X := (w.alloc (.cells #[.int .i64 p, .int .i64 q] 44))) (by go_grown) (by go_size) hb; clear hb)
      | (go_at_call 27; refine (spec_SourceAt (C := C) (R := R) (S := S) _ _ _ ?_).mono ?_; (focus (first | with_reducible exact R1.out | with_reducible exact R1.out.below HT.out)); rintro e w1 ⟨rfl, hb⟩; obtain ⟨hk, hz⟩ := bframe (B := w.heap.size + 1) (X := (w.alloc (.cells #[.int .i64 p, .int .i64 q] 44))) (by go_grown) (by go_size) hb; clear hb))
    all_goals
      go_wp2_with fail
      go_meet
      exact ⟨rfl, by go_grown, by go_size⟩
  case rest =>
    clear hk hc
    obtain ⟨rfl, hB, hz0⟩ := hcut
    have a0 : wc.cell? ⟨w.heap.size, 0, none⟩ = some (.int .i64 p) := (hB.cell (p := ⟨_, _, none⟩) (by simp)).trans (by simp)
    have a1 : wc.cell? ⟨w.heap.size, 1, none⟩ = some (.int .i64 q) := (hB.cell (p := ⟨_, _, none⟩) (by simp)).trans (by simp)
    have K1 : Hid (Below w.heap.size w wc) := bfin (n := 1) (X := (w.alloc (.cells #[.int .i64 p, .int .i64 q] 44))) (by go_grown) hB
    clear hB
    obtain ⟨s, HSO⟩ : ∃ s : ByteArray, Hid (srcO C R S n p q = s) := ⟨_, rfl⟩
    rw [HSO.out]
    go_wp2_with fail
    refine (laws_toCellS _ (HR.out.below K1.out) HN.out).mono ?_
    rintro e u2 ⟨v, rfl, ho, hb⟩
    obtain ⟨A1, cap1, rfl, _, _⟩ := own_shape ho
    have R1 : Hid (ClRow u2 A1 n C R S) := cl_of_own ho HS.out
    have K2 : Hid (Below w.heap.size w u2) := bchain K1.out hb
    have a0 := cyA hb a0
    have a1 := cyA hb a1
    clear hb ho
    go_wp2_with fail
    refine (laws_toRef _ _ _).mono ?_
    rintro e u3 ⟨rfl, hb⟩
    have R2 : Hid (ClRow u3 A1 n C R S) := R1.out.below hb
    have K3 : Hid (Below w.heap.size w u3) := bchain K2.out hb
    clear hb R1
    go_wp2_with fail
    refine (impl_SourceAt p q _ R2.out (HG.out.below K3.out) HP.out HQ.out).mono ?_
    rintro e u4 ⟨rfl, hb⟩
    rw [HSO.out]
    have R3 : Hid (ClRow u4 A1 n C R S) := R2.out.below hb
    have K4 : Hid (Below w.heap.size w u4) := bchain K3.out hb
    clear hb R2
    go_wp2_with fail
    refine (laws_toCellS _ (HR.out.below K4.out) HN.out).mono ?_
    rintro e u6 ⟨v, rfl, ho, hb⟩
    obtain ⟨A3, cap3, rfl, _, _⟩ := own_shape ho
    have R5 : Hid (ClRow u6 A3 n C R S) := cl_of_own ho HS.out
    have R6 : Hid (ClRow u6 A1 n C R S) := R3.out.below hb
    have K6 : Hid (Below w.heap.size w u6) := bchain K4.out hb
    clear hb ho R3
    go_wp2_with fail
    refine (laws_eqCellS _ R6.out R5.out).mono ?_
    rintro e u7 ⟨rfl, hb⟩
    have K7 : Hid (Below w.heap.size w u7) := bchain K6.out hb
    clear hb
    go_wp2_with fail
    go_ret
    exact ⟨rfl, K7.out⟩
end Go.Proofs.YtbkklapkpiogoaaGreatDoor
