import Derived.Test.YtanjlpgdmnapdaaFoE
namespace Go.Proofs.Ytanjlpgdmnapdaa
open Go.RowKit Go.Maps
set_option linter.unusedSimpArgs false
set_option linter.unusedVariables false

def filesB (L : List FI) : Bool := decide (L.length ≤ 60) && (ascB L && (L.all (fun x => nameB x.n) && decide (totL L ≤ 200000)))
theorem filesB_up {L : List FI} (h : filesB L = true) : Up fiK L := by
  simp only [filesB, Bool.and_eq_true] at h
  exact (asc_up L).1 h.2.1
theorem tot_lil : ∀ {L : List FI}, (∀ x ∈ L, fiLil x) → totL L ≤ L.length * 1048576
  | [], _ => Nat.zero_le _
  | y :: r, h => by
    have h1 := tot_lil (L := r) (fun x hx => h x (List.mem_cons_of_mem _ hx))
    have h2 := (h y (List.mem_cons_self ..)).2
    simp only [totL, List.map_cons, List.sum_cons, List.length_cons, Nat.add_mul] at h1 ⊢
    omega

set_option maxRecDepth 100000 in
set_option maxHeartbeats 2000000 in
theorem impl_filesOk {A : Option Addr} {n cap : Nat} {L : List FI} (w : World) (h : FiRow w A L) (hL : L.length = n) (hn : n ≤ 1048576) (hx : ∀ x ∈ L, fiLil x) :
    Calls Try.prog 41 #[.slice A n cap] w fun e w' => e = .returned (.bool (filesB L)) ∧ Below w.heap.size w w' := by
  have HR : Hid (FiRow w A L) := h
  have HL : Hid (L.length = n) := hL
  have HX : Hid (∀ x ∈ L, fiLil x) := hx
  clear h hL hx
  by_cases h60 : (60 : Int) < (n : Int)
  · have HE : Hid (filesB L = false) := by
      show _ = _
      rw [filesB, decide_eq_false (by rw [HL.out]; omega)]; rfl
    go_enter Try.func41, Try.ntmps41
    go_wp2_with fail
    go_ret
    exact ⟨ret_bool HE.out.symm, by go_grown⟩
  have h60' : decide (L.length ≤ 60) = true := decide_eq_true (by rw [HL.out]; omega)
  cases hasc : ascB L
  · have HE : Hid (filesB L = false) := by
      show _ = _
      rw [filesB, h60', hasc]; rfl
    have HA : Hid (ascB L = false) := hasc
    clear hasc h60'
    go_enter Try.func41, Try.ntmps41
    go_wp2_with (first
      | (go_at_call 76; refine (impl_risesF _ HR.out HL.out).mono ?_; rintro e w1 ⟨rfl, hb⟩; rw [HA.out]))
    go_ret
    exact ⟨ret_bool HE.out.symm, by go_grown⟩
  have HA : Hid (ascB L = true) := hasc
  have HE : Hid (filesB L = (L.all (fun x => nameB x.n) && decide (totL L ≤ 200000))) := by
    show _ = _
    rw [filesB, h60', hasc]; rfl
  clear hasc h60'
  go_enter Try.func41, Try.ntmps41
  go_wp2_with (first
    | (go_at_call 76; refine (impl_risesF _ HR.out HL.out).mono ?_; rintro e w1 ⟨rfl, hb⟩; rw [HA.out]; have HB1 : Hid (Below w.heap.size w w1) := hb; clear hb))
  go_loopw [15] (fun i wr => ∃ t : Nat, t ≤ n ∧ i = .int .i64 t ∧ (∀ j x, j < t → L[j]? = some x → nameB x.n = true) ∧ Below w.heap.size w wr) (fun i _ => n - (intOf i).toNat)
  case atStart => exact ⟨0, Nat.zero_le _, rfl, fun j x hj => by omega, HB1.out⟩
  case round =>
    clear HB1
    obtain ⟨t, ht, rfl, hall, hbel⟩ := hrel
    have HN : Hid (∀ j x, j < t → L[j]? = some x → nameB x.n = true) := hall
    clear hall
    by_cases hlt : t < n
    · obtain ⟨x, hx⟩ := at_lt HL.out hlt
      have HXT : Hid (L[t]? = some x) := hx
      obtain ⟨b, o, rfl, hl, hc⟩ := HR.out.2 t x hx
      have c0 : w.cell? ⟨b, o + t * 2, none⟩ = some (.string x.n) := hc 0 _ rfl
      have c1 : w.cell? ⟨b, o + t * 2 + 1, none⟩ = some (.string x.d) := hc 1 _ rfl
      clear hc hx
      have hs := hbel.size
      rw [← hbel.cell (p := ⟨_, _, none⟩) hl] at c0 c1
      have hl2 : b < wr.heap.size := Nat.lt_of_lt_of_le hl hs
      have h0 : (0 : Int) ≤ (t : Int) := by omega
      have h1 : (t : Int) < (n : Int) := by omega
      have hsz : x.n.size ≤ maxLen := (fiOk_of (HX.out x (List.mem_of_getElem? HXT.out))).1
      have HSZ : Hid (x.n.size ≤ maxLen) := hsz
      clear hsz
      cases hnm : nameB x.n
      · have HNM : Hid (nameB x.n = false) := hnm
        clear hnm
        go_wp2_with (first
          | (go_at_call 78; refine (impl_isFileName _ _ HSZ.out).mono ?_; rintro e w1 ⟨rfl, rfl⟩; rw [HNM.out]))
        go_ret
        refine ⟨ret_bool ?_, by go_grown⟩
        rw [HE.out]
        have : L.all (fun x => nameB x.n) = false := by
          rw [List.all_eq_false]
          exact ⟨x, List.mem_of_getElem? HXT.out, by simp [HNM.out]⟩
        rw [this]; rfl
      · have HNM : Hid (nameB x.n = true) := hnm
        clear hnm
        go_wp2_with (first
          | (go_at_call 78; refine (impl_isFileName _ _ HSZ.out).mono ?_; rintro e w1 ⟨rfl, rfl⟩; rw [HNM.out]))
        go_roundw
        case rel => exact ⟨t + 1, by omega, by go_num, fun j u hj hu => by
          by_cases e : j = t
          · subst e; rw [HXT.out] at hu; cases hu; exact HNM.out
          · exact HN.out j u (by omega) hu, by go_grown⟩
        case measure => simp [intOf]; omega
    · have h1 : ¬ (t : Int) < (n : Int) := by omega
      obtain rfl : t = n := by omega
      have HALL : Hid (L.all (fun x => nameB x.n) = true) := by
        show _ = _
        rw [List.all_eq_true]
        intro x hx
        obtain ⟨j, hj, e⟩ := List.getElem_of_mem hx
        exact HN.out j x (by rw [← HL.out]; exact hj) (by rw [List.getElem?_eq_getElem hj, e])
      have hT : totL L ≤ 1099511627776 := by
        have h1 := tot_lil HX.out
        rw [HL.out] at h1
        omega
      have HT : Hid (totL L ≤ 1099511627776) := hT
      have HB : Hid (Below w.heap.size w wr) := hbel
      clear hbel hT
      go_wp2_with fail
      refine (impl_folderOf _ (HR.out.below HB.out) HL.out ((asc_up L).1 HA.out) (by omega) (fun x hx => fiOk_of (HX.out x hx)) HT.out).mono ?_
      rintro e w2 ⟨rfl, hF, hb⟩
      have HF : Hid (FoldL w2 wr.heap.size wr.heap.size t L) := hF
      have HB2 : Hid (Below w.heap.size w w2) := bchain HB.out hb
      clear hb hF
      go_wp2_with fail
      refine (impl_fits _ HF.out HT.out (by omega)).mono ?_
      rintro e w3 ⟨rfl, hb⟩
      have HB3 : Hid (Below w.heap.size w w3) := bchain HB2.out hb
      clear hb
      go_wp2_with fail
      go_ret
      refine ⟨ret_bool ?_, HB3.out⟩
      rw [HE.out, HALL.out, fitB, decide_eq_true (by rw [HL.out]; omega)]
end Go.Proofs.Ytanjlpgdmnapdaa
