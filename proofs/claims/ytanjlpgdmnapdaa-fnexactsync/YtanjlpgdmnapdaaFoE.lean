import Derived.Test.YtanjlpgdmnapdaaFoD
namespace Go.Proofs.Ytanjlpgdmnapdaa
open Go.RowKit Go.Maps
set_option linter.unusedSimpArgs false
set_option linter.unusedVariables false

/-- The bytes of those that no longer come. -/
def sumNot (left : Lit → Bool) (E : List FE) : Nat := (E.map fun x => if left (.string (feK x)) = true then 0 else sumZ x.ps).sum
theorem sumNot_start (E : List FE) : sumNot (Maps.has (FD E)) E = 0 := by
  have key : ∀ E' : List FE, (∀ x ∈ E', x ∈ E) → sumNot (Maps.has (FD E)) E' = 0 := by
    intro E'
    induction E' with
    | nil => intro _; rfl
    | cons x r ih =>
      intro h
      have h1 := ih (fun y hy => h y (List.mem_cons_of_mem _ hy))
      have h2 : Maps.has (FD E) (.string (feK x)) = true := by
        rw [FD_has]
        cases hg : getK feK (feK x) E with
        | some y => rfl
        | none => exact absurd rfl (getK_none hg x (h x (List.mem_cons_self ..)))
      simp only [sumNot, List.map_cons, List.sum_cons, h2] at h1 ⊢
      simp [h1]
  exact key E (fun _ h => h)
theorem sumNot_end {left : Lit → Bool} (h : ∀ k, left k = false) (E : List FE) : sumNot left E = totL (E.map feI) := by
  unfold sumNot totL
  rw [List.map_map]
  congr 1
  apply List.map_congr_left
  intro x _
  simp only [h, Bool.false_eq_true, if_false, Function.comp]
  exact (joinL_size x.ps).symm
theorem sumNot_le (left : Lit → Bool) : ∀ E : List FE, sumNot left E ≤ totL (E.map feI)
  | [] => Nat.le_refl _
  | x :: r => by
    have h := sumNot_le left r
    have h2 := joinL_size x.ps
    have h3 : (feI x).d.size = sumZ x.ps := h2
    simp only [sumNot, totL, List.map_cons, List.sum_cons] at h ⊢
    split <;> omega
theorem sumNot_step {left : Lit → Bool} {e : FE} (hl : left (.string (feK e)) = true) : ∀ {E : List FE}, Up feK E → e ∈ E → sumNot (fun z => left z && !z.sameKey (.string (feK e))) E = sumNot left E + sumZ e.ps
  | x :: r, hU, he => by
    cases List.pairwise_cons.1 hU with
    | intro h1 h2 =>
    have same : ∀ r' : List FE, (∀ y ∈ r', feK y ≠ feK e) → sumNot (fun z => left z && !z.sameKey (.string (feK e))) r' = sumNot left r' := by
      intro r' h
      unfold sumNot
      congr 1
      apply List.map_congr_left
      intro y hy
      have : (Lit.string (feK y)).sameKey (.string (feK e)) = false := by
        show (feK y == feK e) = false
        simpa using h y hy
      simp [this]
    by_cases hx : feK x = feK e
    · have hxe : x = e := by
        rcases List.mem_cons.1 he with h | h
        · exact h.symm
        · exact absurd hx (bb_ne (h1 e h))
      subst hxe
      have h3 := same r (fun y hy => (bb_ne (h1 y hy)).symm)
      have h4 : (Lit.string (feK x)).sameKey (.string (feK x)) = true := by show (feK x == feK x) = true; simp
      show (if (left (.string (feK x)) && !(Lit.string (feK x)).sameKey (.string (feK x))) = true then 0 else sumZ x.ps) + sumNot (fun z => left z && !z.sameKey (.string (feK x))) r = (if left (.string (feK x)) = true then 0 else sumZ x.ps) + sumNot left r + sumZ x.ps
      rw [h3, h4, hl]
      simp
      omega
    · have her : e ∈ r := by
        rcases List.mem_cons.1 he with h | h
        · exact absurd (by rw [h]) hx
        · exact h
      have ih := sumNot_step hl h2 her
      have h4 : (Lit.string (feK x)).sameKey (.string (feK e)) = false := by show (feK x == feK e) = false; simpa using hx
      simp only [sumNot, List.map_cons, List.sum_cons, h4, Bool.not_false, Bool.and_true] at ih ⊢
      omega
def fitB (L : List FI) : Bool := decide (L.length ≤ 60) && decide (totL L ≤ 200000)

set_option maxRecDepth 100000 in
set_option maxHeartbeats 2000000 in
theorem impl_fits {B b m : Nat} {L : List FI} (w : World) (h : FoldL w B b m L) (ht : totL L ≤ 1099511627776) (hm : m < 1073741824) :
    Calls Try.prog 52 #[.map (some b)] w fun e w' => e = .returned (.bool (fitB L)) ∧ Below w.heap.size w w' := by
  obtain ⟨E, hF, rfl, _⟩ := h
  have HF : Hid (Fold w B b m E) := hF
  have HT : Hid (totL (E.map feI) ≤ 1099511627776) := ht
  obtain ⟨tt, HTT⟩ : ∃ tt, Hid (totL (E.map feI) = tt) := ⟨_, rfl⟩
  obtain ⟨nn, HNN⟩ : ∃ nn, Hid (E.length = nn) := ⟨_, rfl⟩
  have hnn : nn < 1073741824 := by
    have h1 := hF.own.size_le
    rw [FD_size, HNN.out] at h1
    omega
  have htt : tt ≤ 1099511627776 := by have := HT.out; rw [HTT.out] at this; exact this
  clear hF ht
  go_enter Try.func52, Try.ntmps52
  go_wp2_with (first
    | (at_range; refine wpList_range_own _ rfl _ 71 rfl 9 118 strK Try.underlying71 _ b m _ rfl HF.out.own ?_; intro w0 hrg0 hg0 hs0)
    | go_in)
  go_frame
  have HR0 : Hid (w0.ranges Try.prog 9 pcE b w.heap.size m (FD E) (Maps.has (FD E)) (Maps.size (FD E))) := hrg0
  have HB0 : Hid (Below w.heap.size w w0) := (Below.refl _ _).grown hg0 (Nat.le_refl _) (fun j hj => by cases hj)
  clear hrg0 hg0
  go_loopw [3] (fun q wr => ∃ (left : Lit → Bool) (cnt : Nat), q = .int .i64 (sumNot left E : Nat) ∧ wr.ranges Try.prog 9 pcE b w.heap.size m (FD E) left cnt ∧ Below w.heap.size w wr)
    (fun _ wr => wr.rangeLeft b w.heap.size)
  case atStart => exact ⟨_, _, by rw [sumNot_start]; rfl, HR0.out, HB0.out⟩
  case round =>
    clear HR0 HB0
    obtain ⟨left, cnt, rfl, hrg, hbel⟩ := hrel
    have HRG : Hid (wr.ranges Try.prog 9 pcE b w.heap.size m (FD E) left cnt) := hrg
    have HB : Hid (Below w.heap.size w wr) := hbel
    clear hrg hbel
    obtain ⟨su, HSU⟩ : ∃ su, Hid (sumNot left E = su) := ⟨_, rfl⟩
    have hsu : su ≤ 1099511627776 := by
      have h1 := sumNot_le left E
      have h2 := HT.out
      rw [HSU.out] at h1
      omega
    rw [HSU.out]
    go_wp2_with (first
      | (at_next; refine wpList_next_ranges (α := ByteArray) (β := Value × Int) _ rfl _ rfl 9 strK pcE Value.string (fun c => .agg #[c.1, .int .i64 c.2]) ?k1 ?k2 b w.heap.size m (FD E) left cnt rfl HRG.out ?_ ?_)
      | go_in)
    case k1 =>
      intro key kl hk
      obtain ⟨s, rfl, _⟩ := Go.WideMaps.string_of_keyOf Try.underlying9 hk
      exact ⟨s, rfl⟩
    case k2 =>
      intro v y hv
      obtain ⟨x, z, rfl, _⟩ := pcE_inv hv
      exact ⟨(x, z), rfl⟩
    · intro _ hl0
      have HE : Hid (su = tt) := by
        show su = tt
        rw [← HSU.out, ← HTT.out]
        exact sumNot_end hl0 E
      have HD : Hid (fitB (E.map feI) = (decide ((nn : Int) ≤ 60) && decide ((su : Int) ≤ 200000))) := by
        show _ = _
        rw [HE.out, fitB, HTT.out, List.length_map, HNN.out]
        congr 1
        · exact decide_eq_decide.2 (by omega)
        · exact decide_eq_decide.2 (by omega)
      have hsz : Maps.size (FD E) = nn := by rw [FD_size, HNN.out]
      by_cases h60 : (nn : Int) ≤ 60
      · go_wp2_with (first
          | (at_len; refine wpList_len_own _ rfl _ 71 rfl 9 118 Try.underlying71 _ b m (FD E) rfl HRG.out.owns ?_; rw [hsz])
          | go_in)
        go_ret
        exact ⟨ret_bool (by rw [HD.out]; simp [h60]), HB.out⟩
      · go_wp2_with (first
          | (at_len; refine wpList_len_own _ rfl _ 71 rfl 9 118 Try.underlying71 _ b m (FD E) rfl HRG.out.owns ?_; rw [hsz])
          | go_in)
        go_ret
        exact ⟨ret_bool (by rw [HD.out, decide_eq_false (by omega)]; rfl), HB.out⟩
    · rintro x v c kl y yp w1 cnt1 hkx hlx hv hat hrg1 hlt hg1 hs1 hen
      obtain ⟨e, HEE⟩ : ∃ e : FE, Hid (e ∈ E ∧ kl = .string (feK e) ∧ v = e.v ∧ c = (sumZ e.ps : Nat)) := by
        obtain ⟨s, e1, rfl, _⟩ := Go.WideMaps.string_of_keyOf Try.underlying9 hkx
        obtain ⟨x', z', e2, e3⟩ := pcE_inv hv
        cases e3
        have h3 := hat (.held undef)
        rw [FD_at] at h3
        cases hg : getK feK s.data.toList E with
        | none => rw [hg] at h3; simp at h3; injection e2 with e2; simp at e2; have h4 := hat (.map []); rw [FD_at, hg] at h4; cases h4
        | some e =>
          rw [hg] at h3
          simp only [DataW.held.injEq] at h3
          injection e2 with e2
          injection h3 with h3
          simp at e2 h3
          exact ⟨e, ⟨(getK_some hg).1, by rw [(getK_some hg).2], by rw [e2.1, h3.1], by rw [e2.2, ← h3.2]⟩⟩
      have HRG1 : Hid (w1.ranges Try.prog 9 pcE b w.heap.size m (FD E) (fun z => left z && !z.sameKey kl) cnt1) := hrg1
      have HST : Hid (sumNot (fun z => left z && !z.sameKey kl) E = su + sumZ e.ps) := by
        show _ = _
        rw [HEE.out.2.1, ← HSU.out]
        exact sumNot_step (by rw [← HEE.out.2.1]; exact hlx) HF.out.up HEE.out.1
      have hc0 : (0 : Int) ≤ c := by rw [HEE.out.2.2.2]; omega
      have hc1 : c ≤ 1099511627776 := by
        have h1 := sumNot_le (fun z => left z && !z.sameKey kl) E
        have h2 := HT.out
        rw [HST.out] at h1
        rw [HEE.out.2.2.2]
        omega
      have HVS : Hid (∃ A n cap, v = .slice A n cap) := by
        obtain ⟨A, cap, e1, _⟩ := own_shape (HF.out.rows e HEE.out.1)
        exact ⟨A, _, cap, HEE.out.2.2.1.trans e1⟩
      obtain ⟨vA, vn, vc, rfl⟩ := HVS.out
      have HB1 : Hid (Below w.heap.size w w1) := HB.out.grown hg1 HB.out.size (fun j hj => by cases hj; exact Nat.le_refl _)
      have hen2 : (Instr.entry (.pointer (some ⟨w.heap.size, 0, none⟩))).run Try.prog w1 = .ok (.tuple #[.string x, .agg #[.slice vA vn vc, .int .i64 c]]) w1 := hen
      have hw1 := HB1.out.size
      clear hrg1 hg1 hkx hlx hv hat hen HVS
      go_wp2_with fail
      go_roundw
      case rel => exact ⟨_, cnt1, by rw [HST.out]; congr 1; rw [HEE.out.2.2.2]; omega, HRG1.out.alloc _, by have hb := HB1.out; go_grown⟩
      case measure => rw [(HRG1.out.alloc _).left_eq, HRG.out.left_eq]; exact hlt
end Go.Proofs.Ytanjlpgdmnapdaa
