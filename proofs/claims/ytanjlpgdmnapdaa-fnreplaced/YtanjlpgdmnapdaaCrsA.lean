import Derived.Test.YtanjlpgdmnapdaaCrsM
namespace Go.Proofs.Ytanjlpgdmnapdaa
open Go.RowKit Go.Maps
set_option linter.unusedSimpArgs false
set_option linter.unusedVariables false

set_option maxRecDepth 100000 in
set_option maxHeartbeats 2000000 in
theorem appending_torn (n d : ByteArray) (t : Int) (w : World) (h0 : 0 ≤ t) (ht : t ≤ 9223372036854775807) (hd : d.size ≤ maxLen) :
    Calls Try.prog 145 #[.agg #[.string n, .string d], .int .i64 t] w fun e w' => e = .returned (.iface 123 (.agg #[.string n, .string (tornS d t)])) ∧ Below w.heap.size w w' := by
  unfold maxLen at hd
  by_cases h1 : t < (d.size : Int)
  · have HE : Hid (tornS d t = d.extract 0 t.toNat) := by show _ = _; rw [tornS, if_pos h1]
    rw [HE.out]
    obtain ⟨k, rfl⟩ : ∃ k : Nat, t = (k : Int) := ⟨t.toNat, by omega⟩
    have h2 : (k : Int) ≤ (d.size : Int) := by omega
    have h3 : ¬ (d.size : Int) < (k : Int) := by omega
    go_enter Try.func145, Try.ntmps145
    go_wp2_with fail
    go_quiet (fail)
    go_wp2_with fail
    refine bodyPost_ret (v := .iface 123 (.agg #[.string n, .string (d.extract 0 k)])) ?_ rfl ⟨rfl, below_drewN (by go_grown) _⟩
    simp (maxDischargeDepth := 9) [results, Try.results145, go_sem, *]
    rw [Int.min_eq_left (by omega)]; rfl
  · have HE : Hid (tornS d t = d) := by show _ = _; rw [tornS, if_neg h1]
    rw [HE.out]
    have h3 : (d.size : Int) ≤ t := by omega
    have h4 : d.extract 0 d.size = d := by simp
    go_enter Try.func145, Try.ntmps145
    go_wp2_with fail
    go_quiet (fail)
    go_wp2_with fail
    refine bodyPost_ret (v := .iface 123 (.agg #[.string n, .string d])) ?_ rfl ⟨rfl, below_drewN (by go_grown) _⟩
    simp (maxDischargeDepth := 9) [results, Try.results145, go_sem, *]
    rw [Int.min_eq_right (by omega)]; exact h4
theorem renaming_torn (n u : ByteArray) (t : Int) (w : World) :
    Calls Try.prog 148 #[.agg #[.string n, .string u], .int .i64 t] w fun e w' => e = .returned (.iface 125 (.agg #[.string n, .string u])) ∧ Below w.heap.size w w' := by
  go_enter Try.func148, Try.ntmps148
  go_wp2_with fail
  go_ret
  exact ⟨rfl, by go_grown⟩
theorem removing_torn (n : ByteArray) (t : Int) (w : World) :
    Calls Try.prog 152 #[.agg #[.string n], .int .i64 t] w fun e w' => e = .returned (.iface 127 (.agg #[.string n])) ∧ Below w.heap.size w w' := by
  go_enter Try.func152, Try.ntmps152
  go_wp2_with fail
  go_ret
  exact ⟨rfl, by go_grown⟩
theorem keep_not {ks : List Int} {n i : Nat} (hi : i < ks.length) (h : ¬ okK ks n i) : keepB ks n = false := decide_eq_false fun h' => h (h' i hi)
theorem keep_yes {ks : List Int} {n m : Nat} (hm : ks.length = m) (h : ∀ j, j < m → okK ks n j) : keepB ks n = true := decide_eq_true fun i hi => h i (by omega)
set_option maxRecDepth 100000 in
set_option maxHeartbeats 2000000 in
theorem impl_placesOk {A : Option Addr} {kn cap : Nat} {ks : List Int} (n : Nat) (w : World) (h : IntRow w A ks) (hL : ks.length = kn) (hn : n ≤ 1048576) (hk : kn ≤ 1048576) :
    Calls Try.prog 50 #[.slice A kn cap, .int .i64 n] w fun e w' => e = .returned (.bool (keepB ks n)) ∧ w' = w := by
  have HR : Hid (IntRow w A ks) := h
  have HKN : Hid (ks.length = kn) := hL
  clear h hL
  go_enter Try.func50, Try.ntmps50
  go_wp2_with fail
  go_loopw [9] (fun i wr => ∃ t : Nat, t ≤ kn ∧ i = .int .i64 t ∧ (∀ j, j < t → okK ks n j) ∧ wr = w) (fun i _ => kn - (intOf i).toNat)
  case atStart => exact ⟨0, Nat.zero_le _, rfl, fun j hj => by omega, rfl⟩
  case round =>
    obtain ⟨t, ht, rfl, hall, rfl⟩ := hrel
    have HALL : Hid (∀ j, j < t → okK ks n j) := hall
    clear hall
    by_cases hlt : t < kn
    · obtain ⟨b, o, rfl, hl, c00⟩ := HR.out.2 t (by rw [HKN.out]; exact hlt)
      obtain ⟨q, HQ⟩ : ∃ q, Hid (kAt ks t = q) := ⟨_, rfl⟩
      have c0 : wr.cell? ⟨b, o + t, none⟩ = some (.int .i64 q) := by rw [← HQ.out]; exact c00
      clear c00
      have h0 : (0 : Int) ≤ (t : Int) := by omega
      have h1 : (t : Int) < (kn : Int) := by omega
      by_cases g1 : q < 0
      · go_wp2_with fail
        go_ret
        exact ⟨by rw [keep_not (i := t) (by rw [HKN.out]; exact hlt) (fun hh => by have := hh.1; rw [HQ.out] at this; omega)]; rfl, rfl⟩
      by_cases g2 : (n : Int) ≤ q
      · go_wp2_with fail
        go_ret
        exact ⟨by rw [keep_not (i := t) (by rw [HKN.out]; exact hlt) (fun hh => by have := hh.2.1; rw [HQ.out] at this; omega)]; rfl, rfl⟩
      by_cases g3 : t = 0
      · subst g3
        simp only [Nat.add_zero] at c0
        have HO : Hid (okK ks n 0) := ⟨by rw [HQ.out]; omega, by rw [HQ.out]; omega, fun hh => by omega⟩
        go_wp2_with fail
        go_roundw
        case rel => exact ⟨1, by omega, by go_num, fun j hj => by obtain rfl : j = 0 := by omega
                                                                  exact HO.out, by simp⟩
        case measure => simp [intOf]; omega
      · obtain ⟨b', o', e', _, c10⟩ := HR.out.2 (t - 1) (by rw [HKN.out]; omega)
        cases e'
        obtain ⟨q1, HQ1⟩ : ∃ q1, Hid (kAt ks (t - 1) = q1) := ⟨_, rfl⟩
        obtain ⟨s, rfl⟩ : ∃ s, t = s + 1 := ⟨t - 1, by omega⟩
        rw [show s + 1 - 1 = s by omega] at HQ1
        have c1 : wr.cell? ⟨b, o + s, none⟩ = some (.int .i64 q1) := by rw [← HQ1.out]; exact c10
        clear c10
        have h2 : (0 : Int) < (s : Int) + 1 := by omega
        have h3 : (s : Int) < (kn : Int) := by omega
        have h4 : (s : Int) + 1 - 1 = (s : Int) := by omega
        by_cases g4 : q ≤ q1
        · go_wp2_with fail
          go_ret
          exact ⟨by rw [keep_not (i := s + 1) (by rw [HKN.out]; exact hlt) (fun hh => by have := hh.2.2 (by omega); rw [HQ.out, show s + 1 - 1 = s by omega, HQ1.out] at this; omega)]; rfl, rfl⟩
        · have HO : Hid (okK ks n (s + 1)) := ⟨by rw [HQ.out]; omega, by rw [HQ.out]; omega, fun _ => by rw [HQ.out, show s + 1 - 1 = s by omega, HQ1.out]; omega⟩
          go_wp2_with fail
          go_roundw
          case rel => exact ⟨s + 1 + 1, by omega, by go_num, fun j hj => by
              by_cases e : j = s + 1
              · subst e; exact HO.out
              · exact HALL.out j (by omega), by simp⟩
          case measure => simp [intOf]; omega
    · have h1 : ¬ (t : Int) < (kn : Int) := by omega
      obtain rfl : t = kn := by omega
      go_wp2_with fail
      go_ret
      exact ⟨by rw [keep_yes HKN.out HALL.out]; rfl, rfl⟩
end Go.Proofs.Ytanjlpgdmnapdaa
