import Derived.Test.YthagnaeemipnlaaValsL
import Derived.Test.YthagnaeemipnlaaValsM
import Derived.Test.YthagnaeemipnlaaValsQ
import Derived.Test.YthagnaeemipnlaaValsP
import Derived.Test.YthagnaeemipnlaaOrdM
namespace Go.Proofs.Ythagnaeemipnlaa
open Go.RowKit

def addK (k n : Int) (s : ByteArray) (k' n' : Int) (s' : ByteArray) : Int := opK (twoE k n s k' n' s') (twoX k n s k' n' s' + twoY k n s k' n' s')
def addN (k n : Int) (s : ByteArray) (k' n' : Int) (s' : ByteArray) : Int := opN (twoE k n s k' n' s') (twoX k n s k' n' s' + twoY k n s k' n' s')
def lessK (k n : Int) (s : ByteArray) (k' n' : Int) (s' : ByteArray) : Int := opK (twoE k n s k' n' s') (twoX k n s k' n' s' - twoY k n s k' n' s')
def lessN (k n : Int) (s : ByteArray) (k' n' : Int) (s' : ByteArray) : Int := opN (twoE k n s k' n' s') (twoX k n s k' n' s' - twoY k n s k' n' s')
def timesK (k n : Int) (s : ByteArray) (k' n' : Int) (s' : ByteArray) : Int := opK (twoE k n s k' n' s') (twoX k n s k' n' s' * twoY k n s k' n' s')
def timesN (k n : Int) (s : ByteArray) (k' n' : Int) (s' : ByteArray) : Int := opN (twoE k n s k' n' s') (twoX k n s k' n' s' * twoY k n s k' n' s')
def ovK (k n : Int) (s : ByteArray) (k' n' : Int) (s' : ByteArray) : Int := opK (overE (twoE k n s k' n' s') (twoY k n s k' n' s')) ((twoX k n s k' n' s').tdiv (twoY k n s k' n' s'))
def ovN (k n : Int) (s : ByteArray) (k' n' : Int) (s' : ByteArray) : Int := opN (overE (twoE k n s k' n' s') (twoY k n s k' n' s')) ((twoX k n s k' n' s').tdiv (twoY k n s k' n' s'))
def negK (k n : Int) (s : ByteArray) : Int := opK (numE k n s) (0 - numX k n s)
def negN (k n : Int) (s : ByteArray) : Int := opN (numE k n s) (0 - numX k n s)

section
variable (k n : Int) (s : ByteArray) (k' n' : Int) (s' : ByteArray) (w : World) (hs : s.size ≤ maxLen) (hs' : s'.size ≤ maxLen)
include hs hs'
end
theorem nil_size : (⟨#[]⟩ : ByteArray).size ≤ maxLen := by decide +kernel

/-! ### What numbers make of them -/
theorem num_int {n : Int} (h : rNum n = true) : numE 1 n ⟨#[]⟩ = 0 ∧ numX 1 n ⟨#[]⟩ = n := by
  have e : emp (⟨#[]⟩ : ByteArray) = true := by decide +kernel
  have ho : okV 1 n ⟨#[]⟩ = true := by simp [okV, h, e]
  simp [numE, numX, ho]
theorem num_blank : numE 0 0 ⟨#[]⟩ = 0 ∧ numX 0 0 ⟨#[]⟩ = 0 := by
  have ho : okV 0 0 ⟨#[]⟩ = true := by decide +kernel
  simp [numE, numX, ho]
theorem two_of {k n : Int} {s : ByteArray} {k' n' : Int} {s' : ByteArray} (h : numE k n s = 0) (h' : numE k' n' s' = 0) : twoE k n s k' n' s' = 0 ∧ twoX k n s k' n' s' = numX k n s ∧ twoY k n s k' n' s' = numX k' n' s' := by
  simp [twoE, twoX, twoY, h, h']
theorem of_two {k n : Int} {s : ByteArray} {k' n' : Int} {s' : ByteArray} (h : twoE k n s k' n' s' = 0) : numE k n s = 0 ∧ numE k' n' s' = 0 := by
  unfold twoE at h
  split at h
  · exact ⟨‹_›, h⟩
  · exact absurd h ‹_›
theorem opK_one {e x : Int} (h : opK e x = 1) : e = 0 ∧ rNum x = true ∧ opN e x = x := by
  unfold opK at h
  split at h
  · rename_i he
    unfold intK at h
    split at h
    · rename_i hr
      exact ⟨he, hr, by simp [opN, he, intN, hr]⟩
    · omega
  · omega
theorem op_of {e x : Int} (he : e = 0) (h : rNum x = true) : opK e x = 1 ∧ opN e x = x := by
  simp [opK, opN, he, intK, intN, h]

theorem sums_facts {k n : Int} {s : ByteArray} {k' n' : Int} {s' : ByteArray} (h : addK k n s k' n' s' = 1) :
    ∃ x z, addN k n s k' n' s' = z ∧ addK k' n' s' k n s = 1 ∧ addN k' n' s' k n s = z ∧ lessK 1 z ⟨#[]⟩ k' n' s' = 1 ∧ lessN 1 z ⟨#[]⟩ k' n' s' = x ∧
      lessK 1 x ⟨#[]⟩ k n s = 1 ∧ lessN 1 x ⟨#[]⟩ k n s = 0 ∧ lessK 0 0 ⟨#[]⟩ 1 z ⟨#[]⟩ = 1 ∧ lessN 0 0 ⟨#[]⟩ 1 z ⟨#[]⟩ = -z ∧ negK 1 z ⟨#[]⟩ = 1 ∧ negN 1 z ⟨#[]⟩ = -z := by
  obtain ⟨he, hr, hn⟩ := opK_one h
  obtain ⟨h1, h2⟩ := of_two he
  obtain ⟨_, hx, hy⟩ := two_of h1 h2
  obtain ⟨b1, b2⟩ := numX_bd k n s
  obtain ⟨b3, b4⟩ := numX_bd k' n' s'
  rw [hx, hy] at hr hn
  have hz := rNum_bd hr
  refine ⟨numX k n s, numX k n s + numX k' n' s', by unfold addN; rw [hx, hy]; exact hn, ?_⟩
  obtain ⟨t1, t2, t3⟩ := two_of h2 h1
  have A := op_of (x := numX k n s + numX k' n' s') t1 hr
  have hzi := num_int hr
  obtain ⟨u1, u2, u3⟩ := two_of hzi.1 h2
  have hxr : rNum (numX k n s) = true := rNum_mk b1 b2
  have B := op_of u1 hxr
  have hxi := num_int hxr
  obtain ⟨v1, v2, v3⟩ := two_of hxi.1 h1
  have C := op_of v1 (show rNum 0 = true by decide +kernel)
  obtain ⟨y1, y2, y3⟩ := two_of num_blank.1 hzi.1
  have hnr : rNum (-(numX k n s + numX k' n' s')) = true := rNum_mk (by omega) (by omega)
  have D := op_of y1 hnr
  have E := op_of hzi.1 hnr
  unfold addK addN lessK lessN negK negN
  rw [t2, t3, u2, u3, hzi.2, v2, v3, hxi.2, y2, y3, num_blank.2, hzi.2,
    show numX k' n' s' + numX k n s = numX k n s + numX k' n' s' by omega, show numX k n s + numX k' n' s' - numX k' n' s' = numX k n s by omega,
    show numX k n s - numX k n s = 0 by omega, show 0 - (numX k n s + numX k' n' s') = -(numX k n s + numX k' n' s') by omega]
  exact ⟨A.1, A.2, B.1, B.2, C.1, C.2, D.1, D.2, E.1, E.2⟩

theorem times_facts {k n : Int} {s : ByteArray} {k' n' : Int} {s' : ByteArray} (h : timesK k n s k' n' s' = 1) :
    ∃ z, timesN k n s k' n' s' = z ∧ timesK k' n' s' k n s = 1 ∧ timesN k' n' s' k n s = z := by
  obtain ⟨he, hr, hn⟩ := opK_one h
  obtain ⟨h1, h2⟩ := of_two he
  obtain ⟨_, hx, hy⟩ := two_of h1 h2
  obtain ⟨t1, t2, t3⟩ := two_of h2 h1
  rw [hx, hy] at hr hn
  refine ⟨numX k n s * numX k' n' s', by unfold timesN; rw [hx, hy]; exact hn, ?_⟩
  unfold timesK timesN
  rw [t2, t3, Int.mul_comm (numX k' n' s')]
  exact op_of t1 hr

theorem over_facts {k n : Int} {s : ByteArray} {k' n' : Int} {s' : ByteArray} (h : ovK k n s k' n' s' = 1) :
    k' = 1 ∧ s' = ⟨#[]⟩ ∧ -1000000000000000 ≤ n' ∧ n' ≤ 1000000000000000 ∧ ∃ q m r, ovN k n s k' n' s' = q ∧ timesK 1 q ⟨#[]⟩ 1 n' ⟨#[]⟩ = 1 ∧ timesN 1 q ⟨#[]⟩ 1 n' ⟨#[]⟩ = m ∧
      lessK k n s 1 m ⟨#[]⟩ = 1 ∧ lessN k n s 1 m ⟨#[]⟩ = r ∧ (0 < n' ∧ r < n' ∧ -r < n' ∨ n' < 0 ∧ r < -n' ∧ -r < -n') := by
  obtain ⟨he0, hr, hn⟩ := opK_one h
  have he : twoE k n s k' n' s' = 0 ∧ ¬ twoY k n s k' n' s' = 0 := by
    unfold overE at he0
    split at he0
    · rename_i h0
      split at he0
      · omega
      · exact ⟨h0, ‹_›⟩
    · exact absurd he0 ‹_›
  obtain ⟨h1, h2⟩ := of_two he.1
  obtain ⟨_, hx, hy⟩ := two_of h1 h2
  have hyn := he.2
  rw [hy] at hyn
  obtain ⟨b1, b2⟩ := numX_bd k n s
  obtain ⟨b3, b4⟩ := numX_bd k' n' s'
  have hint : k' = 1 ∧ s' = ⟨#[]⟩ ∧ numX k' n' s' = n' := by
    rcases mOf_cases k' n' s' with ⟨ho, _⟩ | ⟨ho, rfl, rfl, rfl, _⟩ | ⟨ho, rfl, hr', rfl, _⟩ | ⟨ho, rfl, rfl, hr', _⟩ | ⟨ho, rfl, hr', rfl, _⟩ | ⟨ho, rfl, hr', rfl, _⟩
    · simp [numX, ho] at hyn
    · simp [numX] at hyn
    · exact ⟨rfl, rfl, (num_int hr').2⟩
    · simp [numX] at hyn
    · simp [numX] at hyn
    · simp [numX] at hyn
  obtain ⟨rfl, rfl, hn'⟩ := hint
  rw [hn'] at hyn b3 b4
  rw [hx, hy, hn'] at hr hn
  refine ⟨rfl, rfl, b3, b4, (numX k n s).tdiv n', (numX k n s).tdiv n' * n', (numX k n s).tmod n', by unfold ovN; rw [hx, hy, hn']; exact hn, ?_⟩
  have hmod := Int.mul_tdiv_add_tmod (numX k n s) n'
  have hmb : ((numX k n s).tmod n').natAbs < n'.natAbs := by rw [Int.natAbs_tmod]; exact Nat.mod_lt _ (by omega)
  have hprod : (numX k n s).tdiv n' * n' = numX k n s - (numX k n s).tmod n' := by rw [Int.mul_comm]; omega
  have hpb : (((numX k n s).tdiv n' * n').natAbs) ≤ (numX k n s).natAbs := by
    rw [Int.natAbs_mul, Int.natAbs_tdiv]
    exact Nat.div_mul_le_self _ _
  have hmr : rNum ((numX k n s).tdiv n' * n') = true := by
    generalize (numX k n s).tdiv n' * n' = m at hpb
    exact rNum_mk (by omega) (by omega)
  have hqi := num_int hr
  have hni := num_int (rNum_mk b3 b4)
  obtain ⟨t1, t2, t3⟩ := two_of hqi.1 hni.1
  have T := op_of t1 hmr
  have hmi := num_int hmr
  obtain ⟨u1, u2, u3⟩ := two_of h1 hmi.1
  have hrr : rNum ((numX k n s).tmod n') = true := by
    generalize (numX k n s).tmod n' = m at hmb
    exact rNum_mk (by omega) (by omega)
  have U := op_of u1 hrr
  unfold timesK timesN lessK lessN
  rw [t2, t3, hqi.2, hni.2, u2, u3, hmi.2, show numX k n s - (numX k n s).tdiv n' * n' = (numX k n s).tmod n' by omega]
  refine ⟨T.1, T.2, U.1, U.2, ?_⟩
  generalize (numX k n s).tmod n' = m at hmb
  omega
/-- A number over a blank. -/
theorem over_nought {n : Int} {s : ByteArray} (h : okV 1 n s = true) : ovK 1 n s 0 0 ⟨#[]⟩ = 4 ∧ ovN 1 n s 0 0 ⟨#[]⟩ = 1 := by
  have h1 : numE 1 n s = 0 := by simp [numE, h]
  obtain ⟨a, b, c⟩ := two_of h1 num_blank.1
  unfold ovK ovN
  rw [c, num_blank.2, a]
  simp [overE, opK, opN]

theorem held_facts (k n : Int) (s : ByteArray) (k' n' : Int) (s' : ByteArray) :
    (∃ e, heldK 6 k n s k' n' s' = 4 ∧ heldN 6 k n s k' n' s' = e ∧ heldK 8 k n s k' n' s' = 4 ∧ heldN 8 k n s k' n' s' = e ∧ heldK 11 k n s k' n' s' = 4 ∧ heldN 11 k n s k' n' s' = e) ∨
    (heldK 6 k n s k' n' s' = 3 ∧ heldK 8 k n s k' n' s' = 3 ∧ heldK 10 k n s k' n' s' = 3 ∧ heldK 8 k' n' s' k n s = 3 ∧
      ((heldN 6 k n s k' n' s' = 1 ∧ heldN 7 k n s k' n' s' = 0 ∧ heldN 8 k n s k' n' s' = 0 ∧ heldN 9 k n s k' n' s' = 1 ∧ heldN 10 k n s k' n' s' = 0 ∧ heldN 11 k n s k' n' s' = 1 ∧ heldN 8 k' n' s' k n s = 0) ∨
       (heldN 6 k n s k' n' s' = 0 ∧ heldN 7 k n s k' n' s' = 1 ∧ heldN 8 k n s k' n' s' = 1 ∧ heldN 9 k n s k' n' s' = 1 ∧ heldN 10 k n s k' n' s' = 0 ∧ heldN 11 k n s k' n' s' = 0 ∧ heldN 8 k' n' s' k n s = 0) ∨
       (heldN 6 k n s k' n' s' = 0 ∧ heldN 7 k n s k' n' s' = 1 ∧ heldN 8 k n s k' n' s' = 0 ∧ heldN 9 k n s k' n' s' = 0 ∧ heldN 10 k n s k' n' s' = 1 ∧ heldN 11 k n s k' n' s' = 1 ∧ heldN 8 k' n' s' k n s = 1))) := by
  cases ha : okV k n s
  · left; exact ⟨2, by simp [heldK, heldN, hBad, ha]⟩
  cases hb : okV k' n' s'
  · left; exact ⟨2, by simp [heldK, heldN, hBad, ha, hb]⟩
  by_cases h1 : k = 4
  · subst h1; left; exact ⟨n, by simp [heldK, heldN, hBad, ha, hb]⟩
  by_cases h2 : k' = 4
  · subst h2; left; exact ⟨n', by simp [heldK, heldN, hBad, ha, hb, h1]⟩
  right
  refine ⟨by simp [heldK, hBad, ha, hb, h1, h2], by simp [heldK, hBad, ha, hb, h1, h2], by simp [heldK, hBad, ha, hb, h1, h2], by simp [heldK, hBad, ha, hb, h1, h2], ?_⟩
  have e := ordV_neg (likeK k k') n s (likeK k' k) n' s'
  have hbd := ordV_bd (likeK k k') n s (likeK k' k) n' s'
  have hc : ordV (likeK k k') n s (likeK k' k) n' s' = 0 ∨ ordV (likeK k k') n s (likeK k' k) n' s' = -1 ∨ ordV (likeK k k') n s (likeK k' k) n' s' = 1 := by omega
  rcases hc with hc | hc | hc
  · left; rw [hc] at e; simp [heldN, hBad, ha, hb, h1, h2, e, hc, holdsB]
  · right; left; rw [hc] at e; simp [heldN, hBad, ha, hb, h1, h2, e, hc, holdsB]
  · right; right; rw [hc] at e; simp [heldN, hBad, ha, hb, h1, h2, e, hc, holdsB]

/-! ### The locals of a law, carried over a call -/
theorem carry3 {W w' : World} (hb : Below W.heap.size W w') {p : Nat} {x y z : Value} (c0 : W.cell? ⟨p, 0, none⟩ = some x) (c1 : W.cell? ⟨p, 1, none⟩ = some y) (c2 : W.cell? ⟨p, 2, none⟩ = some z) :
    w'.cell? ⟨p, 0, none⟩ = some x ∧ w'.cell? ⟨p, 1, none⟩ = some y ∧ w'.cell? ⟨p, 2, none⟩ = some z ∧ p < w'.heap.size := by
  have hl : p < W.heap.size := World.block_lt_of_cell? W ⟨p, 0, none⟩ c0
  exact ⟨(hb.cell (p := ⟨p, 0, none⟩) hl).trans c0, (hb.cell (p := ⟨p, 1, none⟩) hl).trans c1, (hb.cell (p := ⟨p, 2, none⟩) hl).trans c2, Nat.lt_of_lt_of_le hl hb.size⟩
theorem carryA {W w' : World} {o : Obj} (hb : Below (W.alloc o).heap.size (W.alloc o) w') {p : Nat} {x y z : Value} (c0 : W.cell? ⟨p, 0, none⟩ = some x) (c1 : W.cell? ⟨p, 1, none⟩ = some y) (c2 : W.cell? ⟨p, 2, none⟩ = some z) :
    w'.cell? ⟨p, 0, none⟩ = some x ∧ w'.cell? ⟨p, 1, none⟩ = some y ∧ w'.cell? ⟨p, 2, none⟩ = some z ∧ p < w'.heap.size := by
  have hl : p < W.heap.size := World.block_lt_of_cell? W ⟨p, 0, none⟩ c0
  have ha : Below W.heap.size W (W.alloc o) := (Below.refl _ _).alloc (Nat.le_refl _) o
  exact carry3 hb ((ha.cell (p := ⟨p, 0, none⟩) hl).trans c0) ((ha.cell (p := ⟨p, 1, none⟩) hl).trans c1) ((ha.cell (p := ⟨p, 2, none⟩) hl).trans c2)
theorem carryN {W w' : World} {x y z : Value} {t : TypeId} (hb : Below (W.alloc (.cells #[x, y, z] t)).heap.size (W.alloc (.cells #[x, y, z] t)) w') :
    w'.cell? ⟨W.heap.size, 0, none⟩ = some x ∧ w'.cell? ⟨W.heap.size, 1, none⟩ = some y ∧ w'.cell? ⟨W.heap.size, 2, none⟩ = some z ∧ W.heap.size < w'.heap.size :=
  carry3 hb (by simp) (by simp) (by simp)
theorem carryA2 {W w' : World} {x y z : Value} {t : TypeId} {o : Obj} (hb : Below ((W.alloc (.cells #[x, y, z] t)).alloc o).heap.size ((W.alloc (.cells #[x, y, z] t)).alloc o) w') :
    w'.cell? ⟨W.heap.size, 0, none⟩ = some x ∧ w'.cell? ⟨W.heap.size, 1, none⟩ = some y ∧ w'.cell? ⟨W.heap.size, 2, none⟩ = some z ∧ W.heap.size < w'.heap.size :=
  carryA hb (by simp) (by simp) (by simp)
theorem carryN2 {W w' : World} {x y z : Value} {t : TypeId} {o : Obj} (hb : Below ((W.alloc o).alloc (.cells #[x, y, z] t)).heap.size ((W.alloc o).alloc (.cells #[x, y, z] t)) w') :
    w'.cell? ⟨W.heap.size + 1, 0, none⟩ = some x ∧ w'.cell? ⟨W.heap.size + 1, 1, none⟩ = some y ∧ w'.cell? ⟨W.heap.size + 1, 2, none⟩ = some z ∧ W.heap.size + 1 < w'.heap.size := by
  have h := carryN hb
  rw [World.size_alloc] at h
  exact h
theorem chA {w W w' : World} {o : Obj} (h : Below w.heap.size w W) (hb : Below (W.alloc o).heap.size (W.alloc o) w') : Below w.heap.size w w' := bchain (h.alloc h.size o) hb
theorem chA2 {w W w' : World} {o o' : Obj} (h : Below w.heap.size w W) (hb : Below ((W.alloc o).alloc o').heap.size ((W.alloc o).alloc o') w') : Below w.heap.size w w' := chA (h.alloc h.size o) hb
theorem carryX {B : Nat} {X w' : World} (hk : Below B X w') (hz : B ≤ w'.heap.size) {p : Nat} (hp : p < B) {x y z : Value} (c0 : X.cell? ⟨p, 0, none⟩ = some x) (c1 : X.cell? ⟨p, 1, none⟩ = some y) (c2 : X.cell? ⟨p, 2, none⟩ = some z) :
    w'.cell? ⟨p, 0, none⟩ = some x ∧ w'.cell? ⟨p, 1, none⟩ = some y ∧ w'.cell? ⟨p, 2, none⟩ = some z ∧ p < w'.heap.size :=
  ⟨(hk.cell (p := ⟨p, 0, none⟩) hp).trans c0, (hk.cell (p := ⟨p, 1, none⟩) hp).trans c1, (hk.cell (p := ⟨p, 2, none⟩) hp).trans c2, Nat.lt_of_lt_of_le hp hz⟩
theorem carryX1 {W w' : World} {o : Obj} (hk : Below (W.heap.size + 1) (W.alloc o) w') (hz : W.heap.size + 1 ≤ w'.heap.size) {p : Nat} {x y z : Value} (c0 : W.cell? ⟨p, 0, none⟩ = some x) (c1 : W.cell? ⟨p, 1, none⟩ = some y) (c2 : W.cell? ⟨p, 2, none⟩ = some z) :
    w'.cell? ⟨p, 0, none⟩ = some x ∧ w'.cell? ⟨p, 1, none⟩ = some y ∧ w'.cell? ⟨p, 2, none⟩ = some z ∧ p < w'.heap.size := by
  have hl : p < W.heap.size := World.block_lt_of_cell? W ⟨p, 0, none⟩ c0
  have ha : Below W.heap.size W (W.alloc o) := (Below.refl _ _).alloc (Nat.le_refl _) o
  exact carryX hk hz (Nat.lt_succ_of_lt hl) ((ha.cell (p := ⟨p, 0, none⟩) hl).trans c0) ((ha.cell (p := ⟨p, 1, none⟩) hl).trans c1) ((ha.cell (p := ⟨p, 2, none⟩) hl).trans c2)
theorem carryXN {W w' : World} {x y z : Value} {t : TypeId} (hk : Below (W.heap.size + 1) (W.alloc (.cells #[x, y, z] t)) w') (hz : W.heap.size + 1 ≤ w'.heap.size) :
    w'.cell? ⟨W.heap.size, 0, none⟩ = some x ∧ w'.cell? ⟨W.heap.size, 1, none⟩ = some y ∧ w'.cell? ⟨W.heap.size, 2, none⟩ = some z ∧ W.heap.size < w'.heap.size :=
  carryX hk hz (Nat.lt_succ_self _) (by simp) (by simp) (by simp)
theorem carryXa {W w' : World} {x y z : Value} {t : TypeId} {o : Obj} (hk : Below (W.heap.size + 2) ((W.alloc (.cells #[x, y, z] t)).alloc o) w') (hz : W.heap.size + 2 ≤ w'.heap.size) :
    w'.cell? ⟨W.heap.size, 0, none⟩ = some x ∧ w'.cell? ⟨W.heap.size, 1, none⟩ = some y ∧ w'.cell? ⟨W.heap.size, 2, none⟩ = some z ∧ W.heap.size < w'.heap.size :=
  carryX hk hz (by omega) (by simp) (by simp) (by simp)
theorem carryXb {W w' : World} {x y z : Value} {t : TypeId} {o : Obj} (hk : Below (W.heap.size + 2) ((W.alloc o).alloc (.cells #[x, y, z] t)) w') (hz : W.heap.size + 2 ≤ w'.heap.size) :
    w'.cell? ⟨W.heap.size + 1, 0, none⟩ = some x ∧ w'.cell? ⟨W.heap.size + 1, 1, none⟩ = some y ∧ w'.cell? ⟨W.heap.size + 1, 2, none⟩ = some z ∧ W.heap.size + 1 < w'.heap.size :=
  carryX hk hz (by omega) (by simp) (by simp) (by simp)
theorem chX {w W w' : World} {o : Obj} (h : Below w.heap.size w W) (hk : Below (W.heap.size + 1) (W.alloc o) w') : Below w.heap.size w w' := (h.alloc h.size o).trans (hk.mono (Nat.le_succ_of_le h.size))
theorem chX2 {w W w' : World} {o o' : Obj} (h : Below w.heap.size w W) (hk : Below (W.heap.size + 2) ((W.alloc o).alloc o') w') : Below w.heap.size w w' :=
  ((h.alloc h.size o).alloc (Nat.le_trans h.size (by simp)) o').trans (hk.mono (Nat.le_trans h.size (by omega)))
theorem held_facts2 (k n : Int) (s : ByteArray) (k' n' : Int) (s' : ByteArray) :
    (∃ e, heldK 6 k n s k' n' s' = 4 ∧ heldN 6 k n s k' n' s' = e ∧ heldK 8 k n s k' n' s' = 4 ∧ heldN 8 k n s k' n' s' = e ∧ heldK 11 k n s k' n' s' = 4 ∧ heldN 11 k n s k' n' s' = e) ∨
    (∃ x y z, heldK 6 k n s k' n' s' = 3 ∧ heldN 6 k n s k' n' s' = x ∧ heldK 8 k n s k' n' s' = 3 ∧ heldN 8 k n s k' n' s' = y ∧ heldK 10 k n s k' n' s' = 3 ∧ heldN 10 k n s k' n' s' = z ∧
      heldK 8 k' n' s' k n s = 3 ∧ heldN 8 k' n' s' k n s = z ∧ heldN 7 k n s k' n' s' = 1 - x ∧ heldN 9 k n s k' n' s' = 1 - z ∧ heldN 11 k n s k' n' s' = 1 - y ∧ x + y + z = 1 ∧ 0 ≤ x ∧ 0 ≤ y ∧ 0 ≤ z) := by
  rcases held_facts k n s k' n' s' with h | ⟨K6, K8, K10, M8, HF⟩
  · exact Or.inl h
  right
  rcases HF with ⟨N6, N7, N8, N9, N10, N11, L8⟩ | ⟨N6, N7, N8, N9, N10, N11, L8⟩ | ⟨N6, N7, N8, N9, N10, N11, L8⟩
  · exact ⟨1, 0, 0, K6, N6, K8, N8, K10, N10, M8, L8, by omega, by omega, by omega, by omega, by omega, by omega, by omega⟩
  · exact ⟨0, 1, 0, K6, N6, K8, N8, K10, N10, M8, L8, by omega, by omega, by omega, by omega, by omega, by omega, by omega⟩
  · exact ⟨0, 0, 1, K6, N6, K8, N8, K10, N10, M8, L8, by omega, by omega, by omega, by omega, by omega, by omega, by omega⟩
theorem fld1 (x y z : Value) (w : World) : (Instr.field 25 (.agg #[x, y, z]) 1).run Try.prog w = .ok y w := by kernel_rfl
end Go.Proofs.Ythagnaeemipnlaa
