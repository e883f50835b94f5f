import Derived.Test.YtnjladjkndblfaaRefs
import Derived.Test.YtnjladjkndblfaaStrs
import Derived.Deep.RegionHeld3
import Derived.Deep.RegionWith
import Derived.Deep.DeepCutAuto
import Derived.Deep.AppendLies
import Derived.Laws.BytesString
namespace Go.Proofs.Ytnjladjkndblfaa
open Go.RowKit
set_option linter.unusedSimpArgs false
set_option linter.unusedVariables false

theorem own_mono {W : World} {B B' : Nat} {e : TypeId} {size n : Nat} {v : Value} {xs : List Value} (h : W.ownsRow B e size v n xs) (hB : B' ≤ B) : W.ownsRow B' e size v n xs := by
  refine ⟨h.1, ?_⟩
  rcases h.2 with hn | ⟨g, cap, cur, rfl, hb, rest⟩
  · exact .inl hn
  · exact .inr ⟨g, cap, cur, rfl, Nat.le_trans hB hb, rest⟩

theorem own_below {W w' : World} {B : Nat} {e : TypeId} {size n : Nat} {v : Value} {xs : List Value} (h : W.ownsRow B e size v n xs) (hb : Below W.heap.size W w') : w'.ownsRow B e size v n xs := by
  refine ⟨h.1, ?_⟩
  rcases h.2 with hn | ⟨g, cap, cur, rfl, hB, hgg, rest⟩
  · exact .inl hn
  · exact .inr ⟨g, cap, cur, rfl, hB, by rw [hb.block g (Array.getElem?_eq_some_iff.1 hgg).1]; exact hgg, rest⟩

/-- A row's head, its cells, and that they may be written. -/
theorem own_shape {W : World} {B : Nat} {e : TypeId} {size n : Nat} {v : Value} {xs : List Value} (h : W.ownsRow B e size v n xs) :
    ∃ A cap, v = .slice A n cap ∧ n ≤ maxLen ∧ (∀ j, j < n * size → ∃ g, A = some ⟨g, 0, none⟩ ∧ B ≤ g ∧ g < W.heap.size ∧ W.cell? ⟨g, j, none⟩ = xs[j]? ∧ W.frozen? ⟨g, j, none⟩ = false) := by
  rcases h.2 with ⟨rfl, rfl⟩ | ⟨g, cap, cur, rfl, hb, hg, h1, h2, _⟩
  · exact ⟨none, 0, rfl, Nat.zero_le _, fun j hj => by omega⟩
  · exact ⟨_, cap, rfl, Nat.le_trans h1 h2, fun j hj => ⟨g, rfl, hb, (Array.getElem?_eq_some_iff.1 hg).1, h.cellAt j hj, h.frozenAt j⟩⟩

theorem grown_trans {a b c : World} {row : Option Nat} (h : a.grownBy b row) (h' : b.grownBy c row) : a.grownBy c row :=
  ⟨h'.os.trans h.os, h'.tape.trans h.tape, h'.output.trans h.output, Nat.le_trans h.size h'.size, fun k hk hr => (h'.block k (Nat.lt_of_lt_of_le hk h.size) hr).trans (h.block k hk hr)⟩

theorem own_empty {W : World} {B g : Nat} {e : TypeId} {size : Nat} (hB : B ≤ W.heap.size) (hg : g = W.heap.size) : (W.alloc (.cells #[] e)).ownsRow B e size (.slice (some ⟨g, 0, none⟩) 0 0) 0 [] := by
  subst hg
  exact World.ownsRow_made W #[] 0 hB (Nat.zero_le _) (by simp)

theorem conv0 (W : World) (b : Nat) (v : Int) (hv : W.cell? ⟨b, 0, none⟩ = some (.int .u8 v)) :
    (convert 51 9 (.slice (some ⟨b, 0, none⟩) 1 1)).run Try.prog W = .ok (.string ⟨#[UInt8.ofNat v.toNat]⟩) W := by
  rw [run_convert_bytes_string W 51 9 5 (some ⟨b, 0, none⟩) 1 1 Try.underlying51 Try.underlying5 Try.underlying9]
  have hl := run_loadCells_list (P := Try.prog) W ⟨b, 0, none⟩ [.int .u8 v] (fun j x hj => by
    match j, hj with
    | 0, hj => simp at hj; simpa [Addr.add, ← hj] using hv)
  rw [run_bytesToString W ⟨b, 0, none⟩ 1 1 [v] (by simpa using hl)]
  rfl

theorem conv1 (W : World) (v : Int) : (convert 51 9 (.slice (some ⟨W.heap.size, 0, none⟩) 1 1)).run Try.prog (W.alloc (.cells #[.int .u8 v] 5)) =
    .ok (.string ⟨#[UInt8.ofNat v.toNat]⟩) (W.alloc (.cells #[.int .u8 v] 5)) := conv0 _ _ v (by simp)

/-- The digits of a number, ahead of a text. -/
def mtGo (m : Nat) (s : ByteArray) : ByteArray := if h : m = 0 then s else mtGo (m / 10) ((⟨#[48 + UInt8.ofNat (m % 10)]⟩ : ByteArray) ++ s)
  termination_by m
  decreasing_by omega

def mtx (k : Int) : ByteArray := (⟨#[109]⟩ : ByteArray) ++ mtGo k.toNat ⟨#[]⟩

theorem mtGo_zero (s : ByteArray) : mtGo 0 s = s := by rw [mtGo]; rfl

theorem mtGo_step {m : Nat} (h : m ≠ 0) (s : ByteArray) : mtGo m s = mtGo (m / 10) ((⟨#[48 + UInt8.ofNat (m % 10)]⟩ : ByteArray) ++ s) := by
  rw [mtGo, dif_neg h]

set_option maxRecDepth 100000 in
set_option maxHeartbeats 2000000 in
theorem laws_markTextV (k : Int) (w : World) (h0 : 0 < k) (h1 : k ≤ 1099511627776000) : Calls Try.prog 19 #[.int .i64 k] w fun e w' => e = .returned (.string (mtx k)) ∧ Below w.heap.size w w' := by
  have hz : ¬ k ≤ 0 := by omega
  go_enter Try.func19, Try.ntmps19
  go_wp2_with fail
  go_loopw [0, 3] (fun q o wr => ∃ (m : Nat) (s : ByteArray), q = .int .i64 m ∧ o = .string s ∧ (s.size : Int) + m ≤ k ∧ mtGo m s = mtGo k.toNat ⟨#[]⟩ ∧ Below w.heap.size w wr) (fun q _ _ => (intOf q).toNat)
  case atStart => exact ⟨k.toNat, ⟨#[]⟩, by congr 1; omega, rfl, by show (0 : Int) + _ ≤ _; omega, rfl, Below.refl _ _⟩
  case round =>
    obtain ⟨m, s, rfl, rfl, hsm, hgo, hbel⟩ := hrel
    have HG : Hid (mtGo m s = mtGo k.toNat ⟨#[]⟩) := hgo
    clear hgo
    have hcv := @conv1
    by_cases hm : (m : Int) ≤ 0
    · have hs1 : ¬ 9223372036854775807 < 1 + s.size := by omega
      have hm0 : m = 0 := by omega
      have HF : Hid ((⟨#[109]⟩ : ByteArray) ++ s = mtx k) := by
        show _ = _
        rw [mtx, ← HG.out, hm0, mtGo_zero]
      clear hm0
      go_wp2_with fail
      go_ret
      exact ⟨by rw [← HF.out]; rfl, hbel⟩
    · have hp : 0 < (m : Int) := by omega
      have hs1 : ¬ 9223372036854775807 < 1 + s.size := by omega
      have hm0 : m ≠ 0 := by omega
      have HS := HG.out
      rw [mtGo_step hm0] at HS
      have HT : Hid (mtGo (m / 10) ((⟨#[48 + UInt8.ofNat (m % 10)]⟩ : ByteArray) ++ s) = mtGo k.toNat ⟨#[]⟩) := HS
      clear HS HG hm0
      go_wp2_with fail
      all_goals
        go_roundw
        case rel => exact ⟨m / 10, _, by congr 1, rfl, by rw [ByteArray.size_append]; show ((1 + s.size : Nat) : Int) + ((m / 10 : Nat) : Int) ≤ k; omega, HT.out, by have hbs := hbel.size; go_grown⟩
        case measure => simp [intOf]; omega


/-- A change: the column and the row of its place, what stood there, what shall. -/
structure CH where
  c : Int
  r : Int
  f : ByteArray
  t : ByteArray
def chL (x : CH) : List Value := [.int .i64 x.c, .int .i64 x.r, .string x.f, .string x.t]
def ChRow (W : World) (A : Option Addr) (n : Nat) (D : Nat → CH) : Prop :=
  n ≤ maxLen ∧ ∀ i, i < n → ∃ b o, A = some ⟨b, o, none⟩ ∧ b < W.heap.size ∧ W.cell? ⟨b, o + i * 4, none⟩ = some (.int .i64 (D i).c) ∧ W.cell? ⟨b, o + i * 4 + 1, none⟩ = some (.int .i64 (D i).r) ∧
    W.cell? ⟨b, o + i * 4 + 2, none⟩ = some (.string (D i).f) ∧ W.cell? ⟨b, o + i * 4 + 3, none⟩ = some (.string (D i).t) ∧ (D i).f.size ≤ maxLen ∧ (D i).t.size ≤ maxLen
theorem ChRow.below {W W' : World} {A : Option Addr} {n : Nat} {D : Nat → CH} (h : ChRow W A n D) (hb : Below W.heap.size W W') : ChRow W' A n D :=
  ⟨h.1, fun i hi => by
    obtain ⟨b, o, e, hl, c0, c1, c2, c3, hs, ht⟩ := h.2 i hi
    exact ⟨b, o, e, Nat.lt_of_lt_of_le hl hb.size, (hb.cell (p := ⟨b, _, none⟩) hl).trans c0, (hb.cell (p := ⟨b, _, none⟩) hl).trans c1, (hb.cell (p := ⟨b, _, none⟩) hl).trans c2, (hb.cell (p := ⟨b, _, none⟩) hl).trans c3, hs, ht⟩⟩
/-- The cells of the first m. -/
def chX (D : Nat → CH) (m : Nat) : List Value := (List.range m).flatMap fun i => chL (D i)
theorem chX_succ (D : Nat → CH) (m : Nat) : chX D (m + 1) = chX D m ++ chL (D m) := by
  simp [chX, List.range_succ, List.flatMap_append]
theorem chX_len (D : Nat → CH) (m : Nat) : (chX D m).length = m * 4 := by
  induction m with
  | zero => rfl
  | succ m ih => rw [chX_succ, List.length_append, ih]; simp [chL]; omega
theorem chX_at (D : Nat → CH) (m i j : Nat) (hi : i < m) (hj : j < 4) : (chX D m)[i * 4 + j]? = (chL (D i))[j]? := by
  induction m with
  | zero => omega
  | succ m ih =>
    rw [chX_succ]
    have hl := chX_len D m
    by_cases h : i < m
    · rw [List.getElem?_append_left (by omega)]
      exact ih h
    · obtain rfl : i = m := by omega
      rw [List.getElem?_append_right (by omega), hl]
      congr 1
      omega
/-- One store into a row of the call's own, of what shall stand there. -/
theorem own_put {W : World} {B g n cap m : Nat} {e : TypeId} {ys X : List Value} {u : Value} {Q : Nat → Prop} (h : W.ownsRow B e 4 (.slice (some ⟨g, 0, none⟩) n cap) n ys) (hm : m < n * 4) (hu : X[m]? = some u) (hy : ∀ j, Q j → ys[j]? = X[j]?) :
    ∃ zs, (W.setCell ⟨g, m, none⟩ u).ownsRow B e 4 (.slice (some ⟨g, 0, none⟩) n cap) n zs ∧ (∀ j, Q j ∨ j = m → zs[j]? = X[j]?) ∧ W.grownBy (W.setCell ⟨g, m, none⟩ u) (some g) := by
  obtain ⟨o1, g1⟩ := h.stored m u
  refine ⟨_, o1, fun j hj => ?_, g1⟩
  have hl := h.1
  by_cases e : m = j
  · subst e
    rw [List.getElem?_set_self (by omega)]; exact hu.symm
  · rw [List.getElem?_set_ne e]
    rcases hj with hj | hj
    · exact hy j hj
    · exact absurd hj.symm e
theorem ch_rows_eq {n : Nat} {ys : List Value} {D : Nat → CH} (hl : ys.length = n * 4) (hy : ∀ j, j < n * 4 → ys[j]? = (chX D n)[j]?) : ys = chX D n := by
  apply List.ext_getElem?
  intro j
  by_cases h : j < n * 4
  · exact hy j h
  · rw [List.getElem?_eq_none (by omega), List.getElem?_eq_none (by rw [chX_len]; omega)]
/-- Four stores: a change. -/
theorem own_four {W : World} {B g n cap t : Nat} {e : TypeId} {ys : List Value} {D : Nat → CH} {Q : Nat → Prop} (x : CH) (hx : D t = x) (h : W.ownsRow B e 4 (.slice (some ⟨g, 0, none⟩) n cap) n ys) (ht : t < n) (hy : ∀ j, Q j → ys[j]? = (chX D n)[j]?) :
    ∃ zs, ((((W.setCell ⟨g, t * 4, none⟩ (.int .i64 x.c)).setCell ⟨g, t * 4 + 1, none⟩ (.int .i64 x.r)).setCell ⟨g, t * 4 + 2, none⟩ (.string x.f)).setCell ⟨g, t * 4 + 3, none⟩ (.string x.t)).ownsRow B e 4 (.slice (some ⟨g, 0, none⟩) n cap) n zs ∧
      (∀ j, Q j ∨ (t * 4 ≤ j ∧ j < (t + 1) * 4) → zs[j]? = (chX D n)[j]?) ∧ W.grownBy ((((W.setCell ⟨g, t * 4, none⟩ (.int .i64 x.c)).setCell ⟨g, t * 4 + 1, none⟩ (.int .i64 x.r)).setCell ⟨g, t * 4 + 2, none⟩ (.string x.f)).setCell ⟨g, t * 4 + 3, none⟩ (.string x.t)) (some g) := by
  subst hx
  obtain ⟨y1, o1, q1, g1⟩ := own_put h (by omega) (chX_at D n t 0 ht (by omega)) hy
  obtain ⟨y2, o2, q2, g2⟩ := own_put o1 (by omega) (chX_at D n t 1 ht (by omega)) q1
  obtain ⟨y3, o3, q3, g3⟩ := own_put o2 (by omega) (chX_at D n t 2 ht (by omega)) q2
  obtain ⟨y4, o4, q4, g4⟩ := own_put o3 (by omega) (chX_at D n t 3 ht (by omega)) q3
  exact ⟨y4, o4, fun j hj => q4 j (by
    rcases hj with hj | hj
    · exact Or.inl (Or.inl (Or.inl (Or.inl hj)))
    · by_cases e3 : j = t * 4 + 3
      · exact Or.inr e3
      by_cases e2 : j = t * 4 + 2
      · exact Or.inl (Or.inr e2)
      by_cases e1 : j = t * 4 + 1
      · exact Or.inl (Or.inl (Or.inr e1))
      · exact Or.inl (Or.inl (Or.inl (Or.inr (by omega))))), grown_trans (grown_trans (grown_trans g1 g2) g3) g4⟩

end Go.Proofs.Ytnjladjkndblfaa
