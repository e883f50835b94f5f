import Derived.Test.YtljbnbapmjoecaaGreatDoorBase
import Derived.Lib.Replace
import Derived.Lib.Join
import Derived.Test.YtljbnbapmjoecaaGreatDoorStrs
namespace Go.Proofs.YtljbnbapmjoecaaGreatDoor
open Go.RowKit
set_option linter.unusedSimpArgs false
set_option linter.unusedVariables false

/-! ### A text in quotes: each quote in it twice -/
def qt (l : List UInt8) : List UInt8 := l.flatMap fun b => if b = 34 then [34, 34] else [b]
theorem qt_cons (b : UInt8) (l : List UInt8) : qt (b :: l) = (if b = 34 then [34, 34] else [b]) ++ qt l := by simp [qt]
theorem qt_app (l r : List UInt8) : qt (l ++ r) = qt l ++ qt r := by simp [qt, List.flatMap_append]
theorem qt_len (l : List UInt8) : (qt l).length ≤ 2 * l.length := by
  induction l with
  | nil => simp [qt]
  | cons b l ih =>
    rw [qt_cons, List.length_append]
    split <;> simp <;> omega
theorem index_at (l : List UInt8) : Lib.index (34 :: l) [34] = ((0 : Nat) : Int) := by
  unfold Lib.index
  rw [if_pos (by simp [List.isPrefixOf])]
  rfl
theorem index_on {b : UInt8} (h : b ≠ 34) (l : List UInt8) (i : Nat) (hi : Lib.index l [34] = (i : Int)) : Lib.index (b :: l) [34] = ((i + 1 : Nat) : Int) := by
  unfold Lib.index
  have e : ([34].isPrefixOf (b :: l)) = false := by
    have e1 : ((34 : UInt8) == b) = false := beq_eq_false_iff_ne.2 (fun e => h e.symm)
    simp [List.isPrefixOf, e1]
  rw [e]
  simp only [Bool.false_eq_true, if_false]
  have e2 : (Lib.index l [34] == -1) = false := by
    rw [hi]
    exact beq_eq_false_iff_ne.2 (by omega)
  rw [e2, hi]
  simp only [Bool.false_eq_true, if_false]
  omega
theorem rep_qt (l : List UInt8) : Lib.replaceK [34] [34, 34] (l.count 34) l = qt l := by
  induction l with
  | nil => rfl
  | cons b t ih =>
    by_cases hb : b = 34
    · subst hb
      rw [List.count_cons_self, Lib.replaceK_hit [34] [34, 34] _ _ 0 (index_at t), qt_cons, if_pos rfl]
      simp [ih]
    · rw [List.count_cons_of_ne (by simpa using hb), qt_cons, if_neg hb]
      cases hc : t.count 34 with
      | zero =>
        rw [hc] at ih
        have e : t = qt t := ih
        rw [← e]
        rfl
      | succ k =>
        obtain ⟨i, hi⟩ := Lib.index_of_count (s := t) (old := [34]) (by rw [Lib.count_one]; omega)
        rw [Lib.replaceK_hit [34] [34, 34] k _ (i + 1) (index_on hb t i hi), ← ih, hc, Lib.replaceK_hit [34] [34, 34] k t i hi]
        simp
theorem rep_all (l : List UInt8) : Lib.replaceAll l [34] [34, 34] = qt l := by
  unfold Lib.replaceAll Lib.replace
  rw [if_neg (by decide)]
  have e : Lib.replaceNum l [34] (-1) = l.count 34 := by
    unfold Lib.replaceNum
    rw [if_pos (by omega), Lib.count_one]
  rw [e, rep_qt]
theorem cnt_le (l : List UInt8) : Lib.count l [34] ≤ l.length := by rw [Lib.count_one]; exact List.count_le_length

/-! ### Texts that are joined: as the specification joins them -/
def jn (xs : List (List UInt8)) : List UInt8 := match xs with
  | [] => []
  | x :: r => x ++ (r.map ([44] ++ ·)).flatten
theorem jn_join (xs : List (List UInt8)) : Lib.join xs [44] = jn xs := by
  cases xs with
  | nil => rfl
  | cons x r => rw [Lib.join_cons]; rfl
theorem jn_snoc (xs : List (List UInt8)) (y : List UInt8) (h : xs ≠ []) : jn (xs ++ [y]) = jn xs ++ [44] ++ y := by
  cases xs with
  | nil => exact absurd rfl h
  | cons x r => simp [jn]
theorem jn_one (y : List UInt8) : jn [y] = y := by simp [jn]
theorem jn_len (xs : List (List UInt8)) (B : Nat) (h : ∀ x ∈ xs, x.length ≤ B) : (jn xs).length ≤ xs.length * (B + 1) := by
  cases xs with
  | nil => simp [jn]
  | cons x r =>
    have h1 := h x (by simp)
    have h2 : ∀ r : List (List UInt8), (∀ y ∈ r, y.length ≤ B) → ((r.map ([44] ++ ·)).flatten).length ≤ r.length * (B + 1) := by
      intro r
      induction r with
      | nil => intro _; simp
      | cons y r ih =>
        intro hr
        have h3 := ih (fun z hz => hr z (by simp [hz]))
        have h4 := hr y (by simp)
        simp only [List.map_cons, List.flatten_cons, List.length_append, List.length_cons, List.length_nil]
        rw [Nat.add_mul]
        omega
    have h3 := h2 r (fun y hy => h y (by simp [hy]))
    show (x ++ _).length ≤ _
    rw [List.length_append, List.length_cons, Nat.add_mul]
    omega
end Go.Proofs.YtljbnbapmjoecaaGreatDoor
namespace Go.Proofs.YtljbnbapmjoecaaGreatDoor
open Go.RowKit
set_option linter.unusedSimpArgs false
set_option linter.unusedVariables false

/-! ### The text of a formula -/
def lvl (o : Int) : Int := if 6 ≤ o then 1 else if o = 5 then 2 else if 3 ≤ o then 4 else 3
def sgT (o : Int) : List UInt8 :=
  if o = 1 then [43] else if o = 2 then [45] else if o = 3 then [42] else if o = 4 then [47] else if o = 5 then [38] else if o = 6 then [61] else if o = 7 then [60, 62] else if o = 8 then [60]
  else if o = 9 then [60, 61] else if o = 10 then [62] else if o = 11 then [62, 61] else []
def fnT (o : Int) : List UInt8 :=
  if o = 1 then [83, 85, 77] else if o = 2 then [77, 73, 78] else if o = 3 then [77, 65, 88] else if o = 4 then [67, 79, 85, 78, 84] else if o = 5 then [73, 70] else if o = 6 then [65, 78, 68]
  else if o = 7 then [79, 82] else if o = 8 then [78, 79, 84] else if o = 9 then [65, 66, 83] else if o = 10 then [76, 69, 78] else []
theorem sgT_len (o : Int) : (sgT o).length ≤ 2 := by
  unfold sgT
  repeat' split
  all_goals decide
theorem fnT_len (o : Int) : (fnT o).length ≤ 5 := by
  unfold fnT
  repeat' split
  all_goals decide
theorem lvl_pos (o : Int) : 1 ≤ lvl o ∧ lvl o ≤ 4 := by
  unfold lvl
  repeat' split
  all_goals omega
/-- A node's text where it must bind as much as 'least'. -/
def bdT (K O : Nat → Int) (T : Nat → List UInt8) (j : Nat) (least : Int) : List UInt8 := if K j = 5 ∧ lvl (O j) < least then [40] ++ T j ++ [41] else T j
def ndT (K O : Nat → Int) (LT : Nat → List UInt8) (G : Nat → List Int) : Nat → Nat → List UInt8
  | 0, _ => []
  | m + 1, i => if K i = 4 then (match G i with
      | [c] => [45] ++ bdT K O (ndT K O LT G m) c.toNat 5
      | _ => []) else if K i = 5 then (match G i with
      | [a, b] => bdT K O (ndT K O LT G m) a.toNat (lvl (O i)) ++ sgT (O i) ++ bdT K O (ndT K O LT G m) b.toNat (lvl (O i) + 1)
      | _ => []) else if K i = 6 then fnT (O i) ++ [40] ++ jn ((G i).map fun c => ndT K O LT G m c.toNat) ++ [41] else LT i
theorem nd_neg {K O : Nat → Int} {LT : Nat → List UInt8} {G : Nat → List Int} {m i : Nat} {c : Int} (hk : K i = 4) (hg : G i = [c]) : ndT K O LT G (m + 1) i = [45] ++ bdT K O (ndT K O LT G m) c.toNat 5 := by
  rw [ndT, if_pos hk, hg]
theorem nd_bin {K O : Nat → Int} {LT : Nat → List UInt8} {G : Nat → List Int} {m i : Nat} {a b : Int} (hk : K i = 5) (hg : G i = [a, b]) :
    ndT K O LT G (m + 1) i = bdT K O (ndT K O LT G m) a.toNat (lvl (O i)) ++ sgT (O i) ++ bdT K O (ndT K O LT G m) b.toNat (lvl (O i) + 1) := by
  rw [ndT, if_neg (by omega), if_pos hk, hg]
theorem nd_call {K O : Nat → Int} {LT : Nat → List UInt8} {G : Nat → List Int} {m i : Nat} (hk : K i = 6) : ndT K O LT G (m + 1) i = fnT (O i) ++ [40] ++ jn ((G i).map fun c => ndT K O LT G m c.toNat) ++ [41] := by
  rw [ndT, if_neg (by omega), if_neg (by omega), if_pos hk]
theorem nd_leaf {K O : Nat → Int} {LT : Nat → List UInt8} {G : Nat → List Int} {m i : Nat} (h4 : K i ≠ 4) (h5 : K i ≠ 5) (h6 : K i ≠ 6) : ndT K O LT G (m + 1) i = LT i := by
  rw [ndT, if_neg h4, if_neg h5, if_neg h6]
/-- Kids as they must be, with how deep a node stands above its leaves. -/
structure TrOk (K : Nat → Int) (LT : Nat → List UInt8) (G : Nat → List Int) (n : Nat) (e : Nat → Nat) : Prop where
  neg : ∀ i, i < n → K i = 4 → ∃ c, G i = [c]
  bin : ∀ i, i < n → K i = 5 → ∃ a b, G i = [a, b]
  call : ∀ i, i < n → K i = 6 → (G i).length ≤ 10
  kid : ∀ i, i < n → ∀ c ∈ G i, 0 ≤ c ∧ c < (i : Int) ∧ e c.toNat + 1 ≤ e i
  leaf : ∀ i, i < n → (LT i).length ≤ 410
theorem bd_len {K O : Nat → Int} {T : Nat → List UInt8} {j B : Nat} {least : Int} (h : (T j).length ≤ B) : (bdT K O T j least).length ≤ B + 2 := by
  unfold bdT
  split
  · simp; omega
  · omega
theorem pow_up {a b : Nat} (h : a + 1 ≤ b) : 11 * (410 * 11 ^ a) ≤ 410 * 11 ^ b := by
  have h1 : 11 ^ (a + 1) ≤ 11 ^ b := Nat.pow_le_pow_right (by omega) h
  rw [Nat.pow_succ] at h1
  omega
theorem pow_one (a : Nat) : 410 ≤ 410 * 11 ^ a := by
  have : 1 ≤ 11 ^ a := Nat.one_le_pow _ _ (by omega)
  omega
theorem nd_len {K O : Nat → Int} {LT : Nat → List UInt8} {G : Nat → List Int} {n : Nat} {e : Nat → Nat} (h : TrOk K LT G n e) : ∀ m i, i < n → (ndT K O LT G m i).length ≤ 410 * 11 ^ e i := by
  intro m
  induction m with
  | zero => intro i _; exact Nat.zero_le _
  | succ m ih =>
    intro i hi
    by_cases h4 : K i = 4
    · obtain ⟨c, hc⟩ := h.neg i hi h4
      obtain ⟨c0, c1, ce⟩ := h.kid i hi c (by rw [hc]; simp)
      rw [nd_neg h4 hc, List.length_append]
      have h1 := bd_len (K := K) (O := O) (least := 5) (ih c.toNat (by omega))
      have h2 := pow_up ce
      have h3 := pow_one (e c.toNat)
      simp only [List.length_cons, List.length_nil]
      omega
    by_cases h5 : K i = 5
    · obtain ⟨a, b, hc⟩ := h.bin i hi h5
      obtain ⟨a0, a1, ae⟩ := h.kid i hi a (by rw [hc]; simp)
      obtain ⟨b0, b1, be⟩ := h.kid i hi b (by rw [hc]; simp)
      rw [nd_bin h5 hc, List.length_append, List.length_append]
      have h1 := bd_len (K := K) (O := O) (least := lvl (O i)) (ih a.toNat (by omega))
      have h2 := bd_len (K := K) (O := O) (least := lvl (O i) + 1) (ih b.toNat (by omega))
      have h3 := pow_up ae
      have h3' := pow_up be
      have h4 := pow_one (e a.toNat)
      have h4' := pow_one (e b.toNat)
      have h6 := sgT_len (O i)
      omega
    by_cases h6 : K i = 6
    · rw [nd_call h6]
      have hl := h.call i hi h6
      have hf := fnT_len (O i)
      by_cases hz : G i = []
      · rw [hz]
        have := pow_one (e i)
        simp [jn]
        omega
      · obtain ⟨B, hB1, hB2⟩ : ∃ B, (∀ c ∈ G i, (ndT K O LT G m c.toNat).length ≤ B) ∧ 11 * B ≤ 410 * 11 ^ e i ∧ 410 ≤ B := by
          obtain ⟨c, hcm⟩ := List.exists_mem_of_ne_nil _ hz
          obtain ⟨_, _, ce⟩ := h.kid i hi c hcm
          refine ⟨410 * 11 ^ (e i - 1), fun x hx => ?_, ?_, pow_one _⟩
          · obtain ⟨x0, x1, xe⟩ := h.kid i hi x hx
            refine Nat.le_trans (ih x.toNat (by omega)) (Nat.mul_le_mul_left _ (Nat.pow_le_pow_right (by omega) (by omega)))
          · exact pow_up (by omega)
        have hj := jn_len ((G i).map fun c => ndT K O LT G m c.toNat) B (fun x hx => by
          obtain ⟨c, hc, rfl⟩ := List.mem_map.1 hx
          exact hB1 c hc)
        rw [List.length_map] at hj
        have hm : (G i).length * (B + 1) ≤ 10 * (B + 1) := Nat.mul_le_mul_right _ hl
        simp only [List.length_append, List.length_cons, List.length_nil]
        omega
    · rw [nd_leaf h4 h5 h6]
      exact Nat.le_trans (h.leaf i hi) (pow_one _)
theorem nd_small {K O : Nat → Int} {LT : Nat → List UInt8} {G : Nat → List Int} {n : Nat} {e : Nat → Nat} (h : TrOk K LT G n e) (m i : Nat) (hi : i < n) (he : e i ≤ 11) : (ndT K O LT G m i).length ≤ 116977784950510 := by
  have h1 := nd_len (O := O) h m i hi
  have h2 : 11 ^ e i ≤ 11 ^ 11 := Nat.pow_le_pow_right (by omega) he
  have h3 : (11 : Nat) ^ 11 = 285311670611 := rfl
  omega
end Go.Proofs.YtljbnbapmjoecaaGreatDoor
namespace Go.Proofs.YtljbnbapmjoecaaGreatDoor
open Go.RowKit
set_option linter.unusedSimpArgs false
set_option linter.unusedVariables false

def bs (l : List UInt8) : ByteArray := ⟨l.toArray⟩
theorem bs_size (l : List UInt8) : (bs l).size = l.length := rfl
theorem bs_list (l : List UInt8) : (bs l).data.toList = l := rfl
theorem bs_of (s : ByteArray) : bs s.data.toList = s := rfl
theorem bs_app (l r : List UInt8) : bs l ++ bs r = bs (l ++ r) := by apply ByteArray.ext; simp [bs]
theorem bs_cat (s : ByteArray) (r : List UInt8) : s ++ bs r = bs (s.data.toList ++ r) := by rw [← bs_app, bs_of]
theorem ext_one (s : ByteArray) (k : Nat) (h : k < s.size) : s.extract k (k + 1) = bs [s[k]] := by
  apply ByteArray.ext
  apply Array.ext'
  have e : (s.extract k (k + 1)).data.toList = (s.data.toList.drop k).take 1 := by simp
  rw [e, List.drop_eq_getElem_cons (by simpa using h)]
  rfl
theorem qt_take (s : ByteArray) (k : Nat) (h : k < s.size) : qt (s.data.toList.take (k + 1)) = qt (s.data.toList.take k) ++ (if s[k] = 34 then [34, 34] else [s[k]]) := by
  have e : s.data.toList.take (k + 1) = s.data.toList.take k ++ [s[k]] := by
    rw [List.take_succ_eq_append_getElem (by simpa using h)]; rfl
  rw [e, qt_app]
  congr 1
  simp [qt]

set_option maxHeartbeats 1000000 in
theorem spec_l3Sign (n : Int) (w : World) (h0 : 1 ≤ n) (h5 : n ≤ 11) : Calls Tryz.prog 94 #[.int .i64 n] w fun e w' =>
    e = .returned (.string (bs (sgT n))) ∧ Below w.heap.size w w' := by
  have hn : n = 1 ∨ n = 2 ∨ n = 3 ∨ n = 4 ∨ n = 5 ∨ n = 6 ∨ n = 7 ∨ n = 8 ∨ n = 9 ∨ n = 10 ∨ n = 11 := by omega
  clear h0 h5
  rcases hn with rfl | rfl | rfl | rfl | rfl | rfl | rfl | rfl | rfl | rfl | rfl
  all_goals
    go_enter Tryz.func94, Tryz.ntmps94
    go_wp2
    go_ret
    exact ⟨rfl, by go_grown⟩

set_option maxHeartbeats 1000000 in
theorem spec_l3Fn (n : Int) (w : World) (h0 : 1 ≤ n) (h5 : n ≤ 10) : Calls Tryz.prog 95 #[.int .i64 n] w fun e w' =>
    e = .returned (.string (bs (fnT n))) ∧ Below w.heap.size w w' := by
  have hn : n = 1 ∨ n = 2 ∨ n = 3 ∨ n = 4 ∨ n = 5 ∨ n = 6 ∨ n = 7 ∨ n = 8 ∨ n = 9 ∨ n = 10 := by omega
  clear h0 h5
  rcases hn with rfl | rfl | rfl | rfl | rfl | rfl | rfl | rfl | rfl | rfl
  all_goals
    go_enter Tryz.func95, Tryz.ntmps95
    go_wp2
    go_ret
    exact ⟨rfl, by go_grown⟩

set_option maxHeartbeats 1000000 in
theorem spec_l3Level (n : Int) (w : World) (h0 : 1 ≤ n) (h5 : n ≤ 11) : Calls Tryz.prog 93 #[.int .i64 n] w fun e w' =>
    e = .returned (.int .i64 (lvl n)) ∧ w' = w := by
  have hn : n = 1 ∨ n = 2 ∨ n = 3 ∨ n = 4 ∨ n = 5 ∨ n = 6 ∨ n = 7 ∨ n = 8 ∨ n = 9 ∨ n = 10 ∨ n = 11 := by omega
  clear h0 h5
  rcases hn with rfl | rfl | rfl | rfl | rfl | rfl | rfl | rfl | rfl | rfl | rfl
  all_goals
    go_enter Tryz.func93, Tryz.ntmps93
    go_wp2
    go_ret
    exact ⟨rfl, rfl⟩
end Go.Proofs.YtljbnbapmjoecaaGreatDoor
