import Derived.Test.YtanjlpgdmnapdaaRec
namespace Go.Proofs.Ytanjlpgdmnapdaa
open Go.RowKit
set_option linter.unusedSimpArgs false
set_option linter.unusedVariables false

structure DP where
  k : Int
  n : ByteArray
  t : ByteArray
  d : ByteArray

def dpL (x : DP) : List Value := [.int .i64 x.k, .string x.n, .string x.t, .string x.d]
theorem dpL_len (x : DP) : (dpL x).length = 4 := rfl
abbrev DpRow (W : World) (A : Option Addr) (L : List DP) : Prop := RowAt 4 dpL W A L
/-- Its texts are texts. -/
def dpOk (x : DP) : Prop := x.n.size ≤ maxLen ∧ x.t.size ≤ maxLen ∧ x.d.size ≤ maxLen
def dpLil (x : DP) : Prop := x.n.size ≤ 1048576 ∧ x.t.size ≤ 1048576 ∧ x.d.size ≤ 1048576
theorem dpOk_of {x : DP} (h : dpLil x) : dpOk x := by
  unfold dpLil at h
  unfold dpOk maxLen
  omega
theorem infoDp : (Try.prog.info? 36).map (fun i => (i.zero, i.size, i.bytes)) = some (some (.agg #[.int .i64 0, .string ⟨#[]⟩, .string ⟨#[]⟩, .string ⟨#[]⟩]), 4, 56) := by kernel_rfl

set_option maxHeartbeats 1000000 in
theorem laws_szDOp (x : DP) (l : Int) (w : World) (hx : dpOk x) (h0 : 0 ≤ l) (h1 : l ≤ 1048576) : Calls Try.prog 29 #[.agg #[.int .i64 x.k, .string x.n, .string x.t, .string x.d], .int .i64 l] w fun e w' =>
    ∃ z : Int, e = .returned (.int .i64 z) ∧ z ≤ l ∧ (0 ≤ z → dpLil x) ∧ Below w.heap.size w w' := by
  unfold dpOk maxLen at hx
  unfold dpLil
  by_cases hz0 : l - (x.n.size : Int) < 0
  · go_enter Try.func29, Try.ntmps29
    go_wp2_with fail
    go_ret
    exact ⟨_, rfl, by omega, fun h => by omega, by go_grown⟩
  by_cases hz1 : l - (x.n.size : Int) - (x.t.size : Int) < 0
  · go_enter Try.func29, Try.ntmps29
    go_wp2_with fail
    go_ret
    exact ⟨_, rfl, by omega, fun h => by omega, by go_grown⟩
  by_cases hz2 : l - (x.n.size : Int) - (x.t.size : Int) - (x.d.size : Int) < 0
  · go_enter Try.func29, Try.ntmps29
    go_wp2_with fail
    go_ret
    exact ⟨_, rfl, by omega, fun h => by omega, by go_grown⟩
  · go_enter Try.func29, Try.ntmps29
    go_wp2_with fail
    go_ret
    exact ⟨_, rfl, by omega, fun h => by omega, by go_grown⟩

set_option maxHeartbeats 1000000 in
theorem laws_toDOp (x : DP) (w : World) : Calls Try.prog 30 #[.agg #[.int .i64 x.k, .string x.n, .string x.t, .string x.d]] w fun e w' =>
    e = .returned (.agg #[.int .i64 x.k, .string x.n, .string x.t, .string x.d]) ∧ Below w.heap.size w w' := by
  go_enter Try.func30, Try.ntmps30
  go_wp2_with fail
  refine bodyPost_ret (v := .agg #[.int .i64 x.k, .string x.n, .string x.t, .string x.d]) ?_ rfl ⟨rfl, by go_grown⟩
  simp (maxDischargeDepth := 9) [results, Try.results30, go_sem, *]

set_option maxHeartbeats 1000000 in
theorem laws_eqDOp (x : DP) (w : World) : Calls Try.prog 93 #[.agg #[.int .i64 x.k, .string x.n, .string x.t, .string x.d], .agg #[.int .i64 x.k, .string x.n, .string x.t, .string x.d]] w fun e w' =>
    e = .returned (.bool true) ∧ Below w.heap.size w w' := by
  go_enter Try.func93, Try.ntmps93
  go_wp2_with fail
  go_ret
  exact ⟨rfl, by go_grown⟩

set_option maxHeartbeats 2000000 in
theorem laws_szDOpS {A : Option Addr} {n cap : Nat} {L : List DP} (l : Int) (w : World) (h : DpRow w A L) (hL : L.length = n) (hx : ∀ x ∈ L, dpOk x) (h0 : 0 ≤ l) (h1 : l ≤ 1048576) :
    Calls Try.prog 65 #[.slice A n cap, .int .i64 l] w fun e w' => ∃ z : Int, e = .returned (.int .i64 z) ∧ z ≤ l ∧ (0 ≤ z → n ≤ 1048576 ∧ ∀ x ∈ L, dpLil x) ∧ Below w.heap.size w w' := by
  have HR : Hid (DpRow w A L) := h
  have HX : Hid (∀ x ∈ L, dpOk x) := hx
  have HL : Hid (L.length = n) := hL
  have hm := h.1
  rw [hL] at hm
  unfold maxLen at hm
  clear h hx hL
  by_cases hbig : l - (n : Int) < 0
  · go_enter Try.func65, Try.ntmps65
    go_wp2_with fail
    go_ret
    exact ⟨-1, rfl, by omega, fun h => by omega, by go_grown⟩
  · go_enter Try.func65, Try.ntmps65
    go_wp2_with fail
    go_loopw [1, 5] (fun q i wr => ∃ (t : Nat) (z : Int), t ≤ n ∧ i = .int .i64 t ∧ q = .int .i64 z ∧ 0 ≤ z ∧ z ≤ l ∧ (∀ j x, j < t → L[j]? = some x → dpLil x) ∧ Below w.heap.size w wr) (fun _ i _ => n - (intOf i).toNat)
    case atStart => exact ⟨0, _, Nat.zero_le _, rfl, rfl, by omega, by omega, fun j x hj => by omega, Below.refl _ _⟩
    case round =>
      obtain ⟨t, z, ht, rfl, rfl, z0, z1, hsm, hbel⟩ := hrel
      have HS : Hid (∀ j x, j < t → L[j]? = some x → dpLil x) := hsm
      clear hsm
      by_cases hlt : t < n
      · obtain ⟨x, hx⟩ := at_lt HL.out hlt
        have HXT : Hid (L[t]? = some x) := hx
        obtain ⟨b, o, rfl, hl, hc⟩ := HR.out.2 t x hx
        clear hx
        have c0 : w.cell? ⟨b, o + t * 4, none⟩ = some (.int .i64 x.k) := hc 0 _ rfl
        have c1 : w.cell? ⟨b, o + t * 4 + 1, none⟩ = some (.string x.n) := hc 1 _ rfl
        have c2 : w.cell? ⟨b, o + t * 4 + 2, none⟩ = some (.string x.t) := hc 2 _ rfl
        have c3 : w.cell? ⟨b, o + t * 4 + 3, none⟩ = some (.string x.d) := hc 3 _ rfl
        clear hc
        rw [← hbel.cell (p := ⟨_, _, none⟩) hl] at c0 c1 c2 c3
        have q0 : (0 : Int) ≤ (t : Int) := by omega
        have q1 : (t : Int) < (n : Int) := by omega
        have HB : Hid (Below w.heap.size w wr) := hbel
        clear hbel
        go_wp2_with fail
        refine (laws_szDOp x _ _ (HX.out x (List.mem_of_getElem? HXT.out)) z0 (by omega)).mono ?_
        rintro e w2 ⟨y, rfl, hy, hlil, hb⟩
        have HB2 : Hid (Below w.heap.size w w2) := bchain HB.out hb
        have HLI : Hid (0 ≤ y → dpLil x) := hlil
        clear hb c0 c1 c2 c3 hlil
        by_cases hz : y < 0
        · go_wp2_with fail
          go_ret
          exact ⟨_, rfl, by omega, fun h => by omega, HB2.out⟩
        · go_wp2_with fail
          go_roundw
          case rel => exact ⟨t + 1, _, by omega, by go_num, rfl, by omega, by omega, fun j u hj hu => by
            by_cases e : j = t
            · subst e; rw [HXT.out] at hu; cases hu; exact HLI.out (by omega)
            · exact HS.out j u (by omega) hu, HB2.out⟩
          case measure => simp [intOf]; omega
      · have q1 : ¬ (t : Int) < (n : Int) := by omega
        obtain rfl : t = n := by omega
        go_wp2_with fail
        go_ret
        exact ⟨_, rfl, by omega, fun h => ⟨by omega, fun x hx => by
          obtain ⟨j, hj, e⟩ := List.getElem_of_mem hx
          exact HS.out j x (by rw [← HL.out]; exact hj) (by rw [List.getElem?_eq_getElem hj, e])⟩, hbel⟩

set_option maxHeartbeats 2000000 in
theorem laws_eqDOpS {A A' : Option Addr} {n n' cap cap' : Nat} {L : List DP} (w : World) (h : DpRow w A L) (h' : DpRow w A' L) (hL : L.length = n) (hL' : L.length = n') :
    Calls Try.prog 69 #[.slice A n cap, .slice A' n' cap'] w fun e w' => e = .returned (.bool true) ∧ Below w.heap.size w w' := by
  obtain rfl : n = n' := hL.symm.trans hL'
  clear hL'
  have HR : Hid (DpRow w A L) := h
  have HR' : Hid (DpRow w A' L) := h'
  have HL : Hid (L.length = n) := hL
  have hn := h.1
  rw [hL] at hn
  unfold maxLen at hn
  clear h h' hL
  go_enter Try.func69, Try.ntmps69
  go_wp2_with fail
  go_loopw [5] (fun i wr => ∃ k : Nat, k ≤ n ∧ i = .int .i64 k ∧ Below w.heap.size w wr) (fun i _ => n - (intOf i).toNat)
  case atStart => exact ⟨0, Nat.zero_le _, rfl, Below.refl _ _⟩
  case round =>
    obtain ⟨t, hk, rfl, hbel⟩ := hrel
    by_cases hlt : t < n
    · obtain ⟨x, hx⟩ := at_lt HL.out hlt
      obtain ⟨b', o', rfl, hl', hc⟩ := HR'.out.2 t x hx
      have d0 : w.cell? ⟨b', o' + t * 4, none⟩ = some (.int .i64 x.k) := hc 0 _ rfl
      have d1 : w.cell? ⟨b', o' + t * 4 + 1, none⟩ = some (.string x.n) := hc 1 _ rfl
      have d2 : w.cell? ⟨b', o' + t * 4 + 2, none⟩ = some (.string x.t) := hc 2 _ rfl
      have d3 : w.cell? ⟨b', o' + t * 4 + 3, none⟩ = some (.string x.d) := hc 3 _ rfl
      clear hc
      obtain ⟨b, o, rfl, hl, hc⟩ := HR.out.2 t x hx
      have c0 : w.cell? ⟨b, o + t * 4, none⟩ = some (.int .i64 x.k) := hc 0 _ rfl
      have c1 : w.cell? ⟨b, o + t * 4 + 1, none⟩ = some (.string x.n) := hc 1 _ rfl
      have c2 : w.cell? ⟨b, o + t * 4 + 2, none⟩ = some (.string x.t) := hc 2 _ rfl
      have c3 : w.cell? ⟨b, o + t * 4 + 3, none⟩ = some (.string x.d) := hc 3 _ rfl
      clear hc hx
      have hs := hbel.size
      have hW := fun b o h => hbel.cell (p := ⟨b, o, none⟩) h
      have h0 : (0 : Int) ≤ (t : Int) := by omega
      have h1 : (t : Int) < (n : Int) := by omega
      go_wp2_with fail
      go_region_held3 (fun w' => (∀ bq oq, bq < w.heap.size → w'.cell? ⟨bq, oq, none⟩ = w.cell? ⟨bq, oq, none⟩) ∧ w.heap.size ≤ w'.heap.size ∧ Below w.heap.size w w')
        (exact sc_of (Nat.le_refl _) (by go_grown))
        (first
        | (go_at_call 93; refine (laws_eqDOp x _).mono ?_; rintro e w1 ⟨rfl, hb⟩; obtain ⟨hk1, hz1⟩ := bframe (B := w.heap.size) (X := w) (by go_grown) (by go_size) hb; clear hb))
      all_goals go_wp2_with fail
      all_goals
        go_roundw
        case rel => exact ⟨t + 1, by omega, by go_num, by go_grown⟩
        case measure => simp [intOf]; omega
    · have h1 : ¬ (t : Int) < (n : Int) := by omega
      go_wp2_with fail
      go_ret
      exact ⟨rfl, hbel⟩

set_option maxHeartbeats 2000000 in
theorem laws_toDOpS {A : Option Addr} {n cap : Nat} {L : List DP} (w : World) (h : DpRow w A L) (hL : L.length = n) (hn : n ≤ 1048576) :
    Calls Try.prog 67 #[.slice A n cap] w fun e w' => ∃ v, e = .returned v ∧ w'.ownsRow w.heap.size 36 4 v n (flat dpL L) ∧ Below w.heap.size w w' := by
  have HR : Hid (DpRow w A L) := h
  have HL : Hid (L.length = n) := hL
  clear h hL
  obtain ⟨i0, hi, hz0, hz1, hz2⟩ := info_parts infoDp
  go_enter Try.func67, Try.ntmps67
  go_wp2_with (refine wpList_make_full _ rfl _ _ 25 rfl w.heap.size 36 i0 _ 4 Try.underlying25 hi hz0 hz1 _ _ _ _ n rfl rfl rfl rfl ?m1 ?m2 ?m3 ?_)
  case m1 => rw [hz2]; omega
  case m2 => unfold maxLen; omega
  case m3 => exact Nat.le_refl _
  intro w1 hown hgrow
  have hg1 : Below w.heap.size w w1 := (Below.refl _ _).grown hgrow (Nat.le_refl _) (fun k hk => by cases hk)
  obtain ⟨ys, hown⟩ : ∃ ys, w1.ownsRow w.heap.size 36 4 (.slice (some ⟨w.heap.size, 0, none⟩) n n) n ys := ⟨_, hown⟩
  clear hgrow
  have HO : Hid (w1.ownsRow w.heap.size 36 4 (.slice (some ⟨w.heap.size, 0, none⟩) n n) n ys) := hown
  clear hown
  go_wp2_with fail
  go_loopw [4] (fun i wr => ∃ t : Nat, t ≤ n ∧ i = .int .i64 t ∧ (∃ ys, wr.ownsRow w.heap.size 36 4 (.slice (some ⟨w.heap.size, 0, none⟩) n n) n ys ∧ ∀ j, j < t * 4 → ys[j]? = (flat dpL L)[j]?) ∧ Below w.heap.size w wr) (fun i _ => n - (intOf i).toNat)
  case atStart => exact ⟨0, Nat.zero_le _, rfl, ⟨ys, HO.out, fun j hj => by omega⟩, hg1⟩
  case round =>
    clear HO hg1
    obtain ⟨t, ht, rfl, ⟨ys, hown, hys⟩, hbel⟩ := hrel
    by_cases hlt : t < n
    · obtain ⟨x, hx⟩ := at_lt HL.out hlt
      have HXT : Hid (L[t]? = some x) := hx
      obtain ⟨b, o, rfl, hl, hc⟩ := HR.out.2 t x hx
      clear hx
      have c0 : w.cell? ⟨b, o + t * 4, none⟩ = some (.int .i64 x.k) := hc 0 _ rfl
      have c1 : w.cell? ⟨b, o + t * 4 + 1, none⟩ = some (.string x.n) := hc 1 _ rfl
      have c2 : w.cell? ⟨b, o + t * 4 + 2, none⟩ = some (.string x.t) := hc 2 _ rfl
      have c3 : w.cell? ⟨b, o + t * 4 + 3, none⟩ = some (.string x.d) := hc 3 _ rfl
      clear hc
      rw [← hbel.cell (p := ⟨_, _, none⟩) hl] at c0 c1 c2 c3
      have q0 : (0 : Int) ≤ (t : Int) := by omega
      have q1 : (t : Int) < (n : Int) := by omega
      have HO : Hid (wr.ownsRow w.heap.size 36 4 (.slice (some ⟨w.heap.size, 0, none⟩) n n) n ys) := hown
      have HY : Hid (∀ j, j < t * 4 → ys[j]? = (flat dpL L)[j]?) := hys
      have HB : Hid (Below w.heap.size w wr) := hbel
      clear hown hys hbel
      go_wp2_with fail
      refine (laws_toDOp x _).mono ?_
      rintro e w2 ⟨rfl, hb⟩
      have HO2 : Hid (w2.ownsRow w.heap.size 36 4 (.slice (some ⟨w.heap.size, 0, none⟩) n n) n ys) := own_below HO.out hb
      have HB2 : Hid (Below w.heap.size w w2) := bchain HB.out hb
      obtain ⟨A', cap', e, _, hc⟩ := own_shape HO2.out
      cases e
      obtain ⟨g0, e0, _, hg, d0, f0⟩ := hc (t * 4) (by omega)
      cases e0
      obtain ⟨g1, e1, _, _, d1, f1⟩ := hc (t * 4 + 1) (by omega)
      cases e1
      obtain ⟨g2, e2, _, _, d2, f2⟩ := hc (t * 4 + 2) (by omega)
      cases e2
      obtain ⟨g3, e3, _, _, d3, f3⟩ := hc (t * 4 + 3) (by omega)
      cases e3
      clear hc hb c0 c1 c2 c3 HO HB
      have hl4 := HO2.out.1
      obtain ⟨x0, y0⟩ : ∃ x, ys[t * 4]? = some x := ⟨_, List.getElem?_eq_getElem (by omega)⟩
      rw [y0] at d0
      obtain ⟨x1, y1⟩ : ∃ x, ys[t * 4 + 1]? = some x := ⟨_, List.getElem?_eq_getElem (by omega)⟩
      rw [y1] at d1
      obtain ⟨x2, y2⟩ : ∃ x, ys[t * 4 + 2]? = some x := ⟨_, List.getElem?_eq_getElem (by omega)⟩
      rw [y2] at d2
      obtain ⟨x3, y3⟩ : ∃ x, ys[t * 4 + 3]? = some x := ⟨_, List.getElem?_eq_getElem (by omega)⟩
      rw [y3] at d3
      clear y0 y1 y2 y3 hl4
      have HT : Hid (∃ zs, (((((w2.setCell ⟨w.heap.size, t * 4, none⟩ (.int .i64 x.k)).setCell ⟨w.heap.size, t * 4 + 1, none⟩ (.string x.n)).setCell ⟨w.heap.size, t * 4 + 2, none⟩ (.string x.t)).setCell ⟨w.heap.size, t * 4 + 3, none⟩ (.string x.d))).ownsRow w.heap.size 36 4 (.slice (some ⟨w.heap.size, 0, none⟩) n n) n zs ∧
        (∀ j, j < (t + 1) * 4 → zs[j]? = (flat dpL L)[j]?) ∧ w2.grownBy (((((w2.setCell ⟨w.heap.size, t * 4, none⟩ (.int .i64 x.k)).setCell ⟨w.heap.size, t * 4 + 1, none⟩ (.string x.n)).setCell ⟨w.heap.size, t * 4 + 2, none⟩ (.string x.t)).setCell ⟨w.heap.size, t * 4 + 3, none⟩ (.string x.d))) (some w.heap.size)) := own_rec dpL_len HO2.out HL.out HXT.out HY.out
      clear HO2 HY
      go_wp2_with fail
      all_goals
        go_roundw
        case rel =>
          obtain ⟨zs, z1, z2, z3⟩ := HT.out
          exact ⟨t + 1, by omega, by simp, ⟨zs, z1, fun j hj => z2 j (by omega)⟩, HB2.out.grown z3 HB2.out.size (fun k hk => by cases hk; exact Nat.le_refl _)⟩
        case measure => simp [intOf]; omega
    · have q1 : ¬ (t : Int) < (n : Int) := by omega
      obtain rfl : t = n := by omega
      go_wp2_with fail
      go_ret
      exact ⟨_, rfl, by rw [flat_eq dpL_len hown.1 HL.out hys] at hown; exact hown, hbel⟩
end Go.Proofs.Ytanjlpgdmnapdaa
