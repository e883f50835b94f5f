import Derived.Test.YtliipepekpdkfaaDrawF
import Derived.Test.YtliipepekpdkfaaOpenB
import Derived.Test.YtliipepekpdkfaaLawM
import Derived.Deep.RegionHeld3
import Derived.Deep.DeepCutAuto
namespace Go.Proofs.Ytliipepekpdkfaa
open Go.RowKit

set_option maxRecDepth 100000 in
set_option maxHeartbeats 8000000 in
theorem law_FnOver (A : Option Addr) (len cap : Nat) (w : World) (hz : Co w A len) : Calls Try.prog 5 #[.slice A len cap] w fun e w' =>
    e = .returned (.bool true) ∧ Below w.heap.size w w' := by
  by_cases hbig : (1048576 : Int) < (len : Int)
  · go_enter Try.func5, Try.ntmps5
    go_wp2_with fail
    refine (laws_big A len cap _).mono ?_
    rintro e wq ⟨rfl, hw⟩
    subst wq
    go_wp2_with fail
    go_ret
    exact ⟨rfl, by go_grown⟩
  have HC : Hid (Cd w A len) := ⟨by omega, hz.2⟩
  clear hz
  go_enter Try.func5, Try.ntmps5
  go_wp2_with fail
  refine (laws_big A len cap _).mono ?_
  rintro e wq ⟨rfl, hw⟩
  subst wq
  go_wp2_with fail
  refine (draw_over A len cap _ (HC.out.below (by go_grown))).mono ?_
  rintro e w1 ⟨k, n, s, k', n', s', rfl, hs, hs', hk1⟩
  have HS : Hid (s.size ≤ maxLen) := hs
  have HS' : Hid (s'.size ≤ maxLen) := hs'
  have HK1 : Hid (Below w.heap.size w w1) := hk1
  clear hs hs' hk1 HC
  go_wp2_with fail
  by_cases hq : ovK k n s k' n' s' = 1
  · obtain ⟨rfl, rfl, n1, n2, Q, M, R, E2, E3, E4, E5, E6, hR⟩ := over_facts hq
    have E1 := hq
    clear hq
    by_cases hk : k = 1
    · subst hk
      rcases hR with ⟨r0, r1, r2⟩ | ⟨r0, r1, r2⟩
      · have hmx : max (0 : Int) (-n') = 0 := by omega
        refine (c_impl_Over 1 n s 1 n' ⟨#[]⟩ _ HS.out nil_size).mono ?_
        rintro e w2 ⟨rfl, hb⟩
        rw [E1, E2]
        obtain ⟨hk, hz⟩ := bframe (B := w1.heap.size + 2) (X := ((w1.alloc (.cells #[.int .i64 (1), .int .i64 (n), .string s] 25)).alloc (.cells #[.int .i64 (1), .int .i64 (n'), .string ⟨#[]⟩] 25))) (by go_grown) (by go_size) hb
        clear hb
        obtain ⟨a0, a1, a2, la⟩ := carryXa hk hz
        obtain ⟨b0, b1, b2, lb⟩ := carryXb hk hz
        have HK2 : Hid (Below w.heap.size w w2) := chX2 HK1.out hk
        clear hk hz
        go_wp2_with fail
        go_region_held3 (fun w' => (∀ bq oq, bq < w2.heap.size + 1 → w'.cell? ⟨bq, oq, none⟩ = (w2.alloc (.cells #[.int .i64 (1), .int .i64 (Q), .string ⟨#[]⟩] 25)).cell? ⟨bq, oq, none⟩) ∧ w2.heap.size + 1 ≤ w'.heap.size ∧ Below (w2.heap.size + 1) (w2.alloc (.cells #[.int .i64 (1), .int .i64 (Q), .string ⟨#[]⟩] 25)) w')
          (exact sc_of (by go_size) (by go_grown))
          (first
          | (go_at_call 31; refine (c_spec_Over _ _ _ _ _ _ _ ?_ ?_).mono ?_; (focus (first | with_reducible exact HS.out | with_reducible exact HS'.out | with_reducible exact nil_size)); (focus (first | with_reducible exact HS.out | with_reducible exact HS'.out | with_reducible exact nil_size)); rintro e wr1 ⟨rfl, hb⟩; rw [E1, E2]; obtain ⟨hk, hz⟩ := bframe (B := w2.heap.size + 1) (X := (w2.alloc (.cells #[.int .i64 (1), .int .i64 (Q), .string ⟨#[]⟩] 25))) (by go_grown) (by go_size) hb; have hC := fun b o h => hk.cell (p := ⟨b, o, none⟩) h; clear hb))
        go_wp2_with fail
        go_region_held3 (fun w' => (∀ bq oq, bq < w2.heap.size + 1 → w'.cell? ⟨bq, oq, none⟩ = (w2.alloc (.cells #[.int .i64 (1), .int .i64 (Q), .string ⟨#[]⟩] 25)).cell? ⟨bq, oq, none⟩) ∧ w2.heap.size + 1 ≤ w'.heap.size ∧ Below (w2.heap.size + 1) (w2.alloc (.cells #[.int .i64 (1), .int .i64 (Q), .string ⟨#[]⟩] 25)) w')
          (exact sc_of (by go_size) (by go_grown))
          (first
          | (go_at_call 22; refine (c_impl_Times _ _ _ _ _ _ _ ?_ ?_).mono ?_; (focus (first | with_reducible exact HS.out | with_reducible exact HS'.out | with_reducible exact nil_size)); (focus (first | with_reducible exact HS.out | with_reducible exact HS'.out | with_reducible exact nil_size)); rintro e wr2 ⟨rfl, hb⟩; rw [E3, E4]; obtain ⟨hk, hz⟩ := bframe (B := w2.heap.size + 1) (X := (w2.alloc (.cells #[.int .i64 (1), .int .i64 (Q), .string ⟨#[]⟩] 25))) (by go_grown) (by go_size) hb; have hC := fun b o h => hk.cell (p := ⟨b, o, none⟩) h; obtain ⟨hD, hF, hL, hE⟩ := kp hb; (try simp only [World.size_drew] at hD hF hL hE); (try (refine cutLt (x := wr1.heap.size) ?_ hb.size (fun hq => ?_); (focus (go_size; done)))); clear hb)
          | (go_at_call 25; refine (c_impl_Less _ _ _ _ _ _ _ ?_ ?_).mono ?_; (focus (first | with_reducible exact HS.out | with_reducible exact HS'.out | with_reducible exact nil_size)); (focus (first | with_reducible exact HS.out | with_reducible exact HS'.out | with_reducible exact nil_size)); rintro e wr2 ⟨rfl, hb⟩; rw [E5, E6]; obtain ⟨hk, hz⟩ := bframe (B := w2.heap.size + 1) (X := (w2.alloc (.cells #[.int .i64 (1), .int .i64 (Q), .string ⟨#[]⟩] 25))) (by go_grown) (by go_size) hb; have hC := fun b o h => hk.cell (p := ⟨b, o, none⟩) h; obtain ⟨hD, hF, hL, hE⟩ := kp hb; (try simp only [World.size_drew] at hD hF hL hE); (try (refine cutLt (x := wr1.heap.size) ?_ hb.size (fun hq => ?_); (focus (go_size; done)))); clear hb))
        all_goals go_wp2_with fail
        all_goals go_ret
        all_goals exact ⟨rfl, chX HK2.out (by go_grown)⟩
      · have hmx : max (0 : Int) (-n') = -n' := by omega
        have r3 : R < n' + 2 * -n' := by omega
        have r4 : -R < n' + 2 * -n' := by omega
        refine (c_impl_Over 1 n s 1 n' ⟨#[]⟩ _ HS.out nil_size).mono ?_
        rintro e w2 ⟨rfl, hb⟩
        rw [E1, E2]
        obtain ⟨hk, hz⟩ := bframe (B := w1.heap.size + 2) (X := ((w1.alloc (.cells #[.int .i64 (1), .int .i64 (n), .string s] 25)).alloc (.cells #[.int .i64 (1), .int .i64 (n'), .string ⟨#[]⟩] 25))) (by go_grown) (by go_size) hb
        clear hb
        obtain ⟨a0, a1, a2, la⟩ := carryXa hk hz
        obtain ⟨b0, b1, b2, lb⟩ := carryXb hk hz
        have HK2 : Hid (Below w.heap.size w w2) := chX2 HK1.out hk
        clear hk hz
        go_wp2_with fail
        go_region_held3 (fun w' => (∀ bq oq, bq < w2.heap.size + 1 → w'.cell? ⟨bq, oq, none⟩ = (w2.alloc (.cells #[.int .i64 (1), .int .i64 (Q), .string ⟨#[]⟩] 25)).cell? ⟨bq, oq, none⟩) ∧ w2.heap.size + 1 ≤ w'.heap.size ∧ Below (w2.heap.size + 1) (w2.alloc (.cells #[.int .i64 (1), .int .i64 (Q), .string ⟨#[]⟩] 25)) w')
          (exact sc_of (by go_size) (by go_grown))
          (first
          | (go_at_call 31; refine (c_spec_Over _ _ _ _ _ _ _ ?_ ?_).mono ?_; (focus (first | with_reducible exact HS.out | with_reducible exact HS'.out | with_reducible exact nil_size)); (focus (first | with_reducible exact HS.out | with_reducible exact HS'.out | with_reducible exact nil_size)); rintro e wr1 ⟨rfl, hb⟩; rw [E1, E2]; obtain ⟨hk, hz⟩ := bframe (B := w2.heap.size + 1) (X := (w2.alloc (.cells #[.int .i64 (1), .int .i64 (Q), .string ⟨#[]⟩] 25))) (by go_grown) (by go_size) hb; have hC := fun b o h => hk.cell (p := ⟨b, o, none⟩) h; clear hb))
        go_wp2_with fail
        go_region_held3 (fun w' => (∀ bq oq, bq < w2.heap.size + 1 → w'.cell? ⟨bq, oq, none⟩ = (w2.alloc (.cells #[.int .i64 (1), .int .i64 (Q), .string ⟨#[]⟩] 25)).cell? ⟨bq, oq, none⟩) ∧ w2.heap.size + 1 ≤ w'.heap.size ∧ Below (w2.heap.size + 1) (w2.alloc (.cells #[.int .i64 (1), .int .i64 (Q), .string ⟨#[]⟩] 25)) w')
          (exact sc_of (by go_size) (by go_grown))
          (first
          | (go_at_call 22; refine (c_impl_Times _ _ _ _ _ _ _ ?_ ?_).mono ?_; (focus (first | with_reducible exact HS.out | with_reducible exact HS'.out | with_reducible exact nil_size)); (focus (first | with_reducible exact HS.out | with_reducible exact HS'.out | with_reducible exact nil_size)); rintro e wr2 ⟨rfl, hb⟩; rw [E3, E4]; obtain ⟨hk, hz⟩ := bframe (B := w2.heap.size + 1) (X := (w2.alloc (.cells #[.int .i64 (1), .int .i64 (Q), .string ⟨#[]⟩] 25))) (by go_grown) (by go_size) hb; have hC := fun b o h => hk.cell (p := ⟨b, o, none⟩) h; obtain ⟨hD, hF, hL, hE⟩ := kp hb; (try simp only [World.size_drew] at hD hF hL hE); (try (refine cutLt (x := wr1.heap.size) ?_ hb.size (fun hq => ?_); (focus (go_size; done)))); clear hb)
          | (go_at_call 25; refine (c_impl_Less _ _ _ _ _ _ _ ?_ ?_).mono ?_; (focus (first | with_reducible exact HS.out | with_reducible exact HS'.out | with_reducible exact nil_size)); (focus (first | with_reducible exact HS.out | with_reducible exact HS'.out | with_reducible exact nil_size)); rintro e wr2 ⟨rfl, hb⟩; rw [E5, E6]; obtain ⟨hk, hz⟩ := bframe (B := w2.heap.size + 1) (X := (w2.alloc (.cells #[.int .i64 (1), .int .i64 (Q), .string ⟨#[]⟩] 25))) (by go_grown) (by go_size) hb; have hC := fun b o h => hk.cell (p := ⟨b, o, none⟩) h; obtain ⟨hD, hF, hL, hE⟩ := kp hb; (try simp only [World.size_drew] at hD hF hL hE); (try (refine cutLt (x := wr1.heap.size) ?_ hb.size (fun hq => ?_); (focus (go_size; done)))); clear hb))
        all_goals go_wp2_with fail
        all_goals go_ret
        all_goals exact ⟨rfl, chX HK2.out (by go_grown)⟩
    · rcases hR with ⟨r0, r1, r2⟩ | ⟨r0, r1, r2⟩
      · have hmx : max (0 : Int) (-n') = 0 := by omega
        refine (c_impl_Over k n s 1 n' ⟨#[]⟩ _ HS.out nil_size).mono ?_
        rintro e w2 ⟨rfl, hb⟩
        rw [E1, E2]
        obtain ⟨hk, hz⟩ := bframe (B := w1.heap.size + 2) (X := ((w1.alloc (.cells #[.int .i64 (k), .int .i64 (n), .string s] 25)).alloc (.cells #[.int .i64 (1), .int .i64 (n'), .string ⟨#[]⟩] 25))) (by go_grown) (by go_size) hb
        clear hb
        obtain ⟨a0, a1, a2, la⟩ := carryXa hk hz
        obtain ⟨b0, b1, b2, lb⟩ := carryXb hk hz
        have HK2 : Hid (Below w.heap.size w w2) := chX2 HK1.out hk
        clear hk hz
        go_wp2_with fail
        go_region_held3 (fun w' => (∀ bq oq, bq < w2.heap.size + 1 → w'.cell? ⟨bq, oq, none⟩ = (w2.alloc (.cells #[.int .i64 (1), .int .i64 (Q), .string ⟨#[]⟩] 25)).cell? ⟨bq, oq, none⟩) ∧ w2.heap.size + 1 ≤ w'.heap.size ∧ Below (w2.heap.size + 1) (w2.alloc (.cells #[.int .i64 (1), .int .i64 (Q), .string ⟨#[]⟩] 25)) w')
          (exact sc_of (by go_size) (by go_grown))
          (first
          | (go_at_call 31; refine (c_spec_Over _ _ _ _ _ _ _ ?_ ?_).mono ?_; (focus (first | with_reducible exact HS.out | with_reducible exact HS'.out | with_reducible exact nil_size)); (focus (first | with_reducible exact HS.out | with_reducible exact HS'.out | with_reducible exact nil_size)); rintro e wr1 ⟨rfl, hb⟩; rw [E1, E2]; obtain ⟨hk, hz⟩ := bframe (B := w2.heap.size + 1) (X := (w2.alloc (.cells #[.int .i64 (1), .int .i64 (Q), .string ⟨#[]⟩] 25))) (by go_grown) (by go_size) hb; have hC := fun b o h => hk.cell (p := ⟨b, o, none⟩) h; clear hb))
        go_wp2_with fail
        go_region_held3 (fun w' => (∀ bq oq, bq < w2.heap.size + 1 → w'.cell? ⟨bq, oq, none⟩ = (w2.alloc (.cells #[.int .i64 (1), .int .i64 (Q), .string ⟨#[]⟩] 25)).cell? ⟨bq, oq, none⟩) ∧ w2.heap.size + 1 ≤ w'.heap.size ∧ Below (w2.heap.size + 1) (w2.alloc (.cells #[.int .i64 (1), .int .i64 (Q), .string ⟨#[]⟩] 25)) w')
          (exact sc_of (by go_size) (by go_grown))
          (first
          | (go_at_call 22; refine (c_impl_Times _ _ _ _ _ _ _ ?_ ?_).mono ?_; (focus (first | with_reducible exact HS.out | with_reducible exact HS'.out | with_reducible exact nil_size)); (focus (first | with_reducible exact HS.out | with_reducible exact HS'.out | with_reducible exact nil_size)); rintro e wr2 ⟨rfl, hb⟩; rw [E3, E4]; obtain ⟨hk, hz⟩ := bframe (B := w2.heap.size + 1) (X := (w2.alloc (.cells #[.int .i64 (1), .int .i64 (Q), .string ⟨#[]⟩] 25))) (by go_grown) (by go_size) hb; have hC := fun b o h => hk.cell (p := ⟨b, o, none⟩) h; obtain ⟨hD, hF, hL, hE⟩ := kp hb; (try simp only [World.size_drew] at hD hF hL hE); (try (refine cutLt (x := wr1.heap.size) ?_ hb.size (fun hq => ?_); (focus (go_size; done)))); clear hb)
          | (go_at_call 25; refine (c_impl_Less _ _ _ _ _ _ _ ?_ ?_).mono ?_; (focus (first | with_reducible exact HS.out | with_reducible exact HS'.out | with_reducible exact nil_size)); (focus (first | with_reducible exact HS.out | with_reducible exact HS'.out | with_reducible exact nil_size)); rintro e wr2 ⟨rfl, hb⟩; rw [E5, E6]; obtain ⟨hk, hz⟩ := bframe (B := w2.heap.size + 1) (X := (w2.alloc (.cells #[.int .i64 (1), .int .i64 (Q), .string ⟨#[]⟩] 25))) (by go_grown) (by go_size) hb; have hC := fun b o h => hk.cell (p := ⟨b, o, none⟩) h; obtain ⟨hD, hF, hL, hE⟩ := kp hb; (try simp only [World.size_drew] at hD hF hL hE); (try (refine cutLt (x := wr1.heap.size) ?_ hb.size (fun hq => ?_); (focus (go_size; done)))); clear hb))
        all_goals go_wp2_with fail
        all_goals go_ret
        all_goals exact ⟨rfl, chX HK2.out (by go_grown)⟩
      · have hmx : max (0 : Int) (-n') = -n' := by omega
        have r3 : R < n' + 2 * -n' := by omega
        have r4 : -R < n' + 2 * -n' := by omega
        refine (c_impl_Over k n s 1 n' ⟨#[]⟩ _ HS.out nil_size).mono ?_
        rintro e w2 ⟨rfl, hb⟩
        rw [E1, E2]
        obtain ⟨hk, hz⟩ := bframe (B := w1.heap.size + 2) (X := ((w1.alloc (.cells #[.int .i64 (k), .int .i64 (n), .string s] 25)).alloc (.cells #[.int .i64 (1), .int .i64 (n'), .string ⟨#[]⟩] 25))) (by go_grown) (by go_size) hb
        clear hb
        obtain ⟨a0, a1, a2, la⟩ := carryXa hk hz
        obtain ⟨b0, b1, b2, lb⟩ := carryXb hk hz
        have HK2 : Hid (Below w.heap.size w w2) := chX2 HK1.out hk
        clear hk hz
        go_wp2_with fail
        go_region_held3 (fun w' => (∀ bq oq, bq < w2.heap.size + 1 → w'.cell? ⟨bq, oq, none⟩ = (w2.alloc (.cells #[.int .i64 (1), .int .i64 (Q), .string ⟨#[]⟩] 25)).cell? ⟨bq, oq, none⟩) ∧ w2.heap.size + 1 ≤ w'.heap.size ∧ Below (w2.heap.size + 1) (w2.alloc (.cells #[.int .i64 (1), .int .i64 (Q), .string ⟨#[]⟩] 25)) w')
          (exact sc_of (by go_size) (by go_grown))
          (first
          | (go_at_call 31; refine (c_spec_Over _ _ _ _ _ _ _ ?_ ?_).mono ?_; (focus (first | with_reducible exact HS.out | with_reducible exact HS'.out | with_reducible exact nil_size)); (focus (first | with_reducible exact HS.out | with_reducible exact HS'.out | with_reducible exact nil_size)); rintro e wr1 ⟨rfl, hb⟩; rw [E1, E2]; obtain ⟨hk, hz⟩ := bframe (B := w2.heap.size + 1) (X := (w2.alloc (.cells #[.int .i64 (1), .int .i64 (Q), .string ⟨#[]⟩] 25))) (by go_grown) (by go_size) hb; have hC := fun b o h => hk.cell (p := ⟨b, o, none⟩) h; clear hb))
        go_wp2_with fail
        go_region_held3 (fun w' => (∀ bq oq, bq < w2.heap.size + 1 → w'.cell? ⟨bq, oq, none⟩ = (w2.alloc (.cells #[.int .i64 (1), .int .i64 (Q), .string ⟨#[]⟩] 25)).cell? ⟨bq, oq, none⟩) ∧ w2.heap.size + 1 ≤ w'.heap.size ∧ Below (w2.heap.size + 1) (w2.alloc (.cells #[.int .i64 (1), .int .i64 (Q), .string ⟨#[]⟩] 25)) w')
          (exact sc_of (by go_size) (by go_grown))
          (first
          | (go_at_call 22; refine (c_impl_Times _ _ _ _ _ _ _ ?_ ?_).mono ?_; (focus (first | with_reducible exact HS.out | with_reducible exact HS'.out | with_reducible exact nil_size)); (focus (first | with_reducible exact HS.out | with_reducible exact HS'.out | with_reducible exact nil_size)); rintro e wr2 ⟨rfl, hb⟩; rw [E3, E4]; obtain ⟨hk, hz⟩ := bframe (B := w2.heap.size + 1) (X := (w2.alloc (.cells #[.int .i64 (1), .int .i64 (Q), .string ⟨#[]⟩] 25))) (by go_grown) (by go_size) hb; have hC := fun b o h => hk.cell (p := ⟨b, o, none⟩) h; obtain ⟨hD, hF, hL, hE⟩ := kp hb; (try simp only [World.size_drew] at hD hF hL hE); (try (refine cutLt (x := wr1.heap.size) ?_ hb.size (fun hq => ?_); (focus (go_size; done)))); clear hb)
          | (go_at_call 25; refine (c_impl_Less _ _ _ _ _ _ _ ?_ ?_).mono ?_; (focus (first | with_reducible exact HS.out | with_reducible exact HS'.out | with_reducible exact nil_size)); (focus (first | with_reducible exact HS.out | with_reducible exact HS'.out | with_reducible exact nil_size)); rintro e wr2 ⟨rfl, hb⟩; rw [E5, E6]; obtain ⟨hk, hz⟩ := bframe (B := w2.heap.size + 1) (X := (w2.alloc (.cells #[.int .i64 (1), .int .i64 (Q), .string ⟨#[]⟩] 25))) (by go_grown) (by go_size) hb; have hC := fun b o h => hk.cell (p := ⟨b, o, none⟩) h; obtain ⟨hD, hF, hL, hE⟩ := kp hb; (try simp only [World.size_drew] at hD hF hL hE); (try (refine cutLt (x := wr1.heap.size) ?_ hb.size (fun hq => ?_); (focus (go_size; done)))); clear hb))
        all_goals go_wp2_with fail
        all_goals go_ret
        all_goals exact ⟨rfl, chX HK2.out (by go_grown)⟩
  by_cases hk : k = 1
  · subst hk
    by_cases hk' : k' = 0
    · subst hk'
      by_cases hn' : n' = 0
      · subst hn'
        by_cases he : s' = ⟨#[]⟩
        · subst he
          cases hv : okV 1 n s
          · have HV : Hid (okV 1 n s = false) := hv
            clear hv
            refine (c_impl_Over 1 n s 0 0 ⟨#[]⟩ _ HS.out nil_size).mono ?_
            rintro e w2 ⟨rfl, hb⟩
            obtain ⟨hk, hz⟩ := bframe (B := w1.heap.size + 2) (X := ((w1.alloc (.cells #[.int .i64 (1), .int .i64 (n), .string s] 25)).alloc (.cells #[.int .i64 (0), .int .i64 (0), .string ⟨#[]⟩] 25))) (by go_grown) (by go_size) hb
            clear hb
            obtain ⟨a0, a1, a2, la⟩ := carryXa hk hz
            obtain ⟨b0, b1, b2, lb⟩ := carryXb hk hz
            have HK2 : Hid (Below w.heap.size w w2) := chX2 HK1.out hk
            clear hk hz
            go_wp2_with fail
            go_region_held3 (fun w' => (∀ bq oq, bq < w2.heap.size + 1 → w'.cell? ⟨bq, oq, none⟩ = (w2.alloc (.cells #[.int .i64 (ovK 1 n s 0 0 ⟨#[]⟩), .int .i64 (ovN 1 n s 0 0 ⟨#[]⟩), .string ⟨#[]⟩] 25)).cell? ⟨bq, oq, none⟩) ∧ w2.heap.size + 1 ≤ w'.heap.size ∧ Below (w2.heap.size + 1) (w2.alloc (.cells #[.int .i64 (ovK 1 n s 0 0 ⟨#[]⟩), .int .i64 (ovN 1 n s 0 0 ⟨#[]⟩), .string ⟨#[]⟩] 25)) w')
              (exact sc_of (by go_size) (by go_grown))
              (first
              | (go_at_call 31; refine (c_spec_Over _ _ _ _ _ _ _ ?_ ?_).mono ?_; (focus (first | with_reducible exact HS.out | with_reducible exact HS'.out | with_reducible exact nil_size)); (focus (first | with_reducible exact HS.out | with_reducible exact HS'.out | with_reducible exact nil_size)); rintro e wr1 ⟨rfl, hb⟩; obtain ⟨hk, hz⟩ := bframe (B := w2.heap.size + 1) (X := (w2.alloc (.cells #[.int .i64 (ovK 1 n s 0 0 ⟨#[]⟩), .int .i64 (ovN 1 n s 0 0 ⟨#[]⟩), .string ⟨#[]⟩] 25))) (by go_grown) (by go_size) hb; have hC := fun b o h => hk.cell (p := ⟨b, o, none⟩) h; clear hb))
            go_wp2_with (first
              | (go_at_call 32; refine (spec_ValueOk _ _ _ _ ?_).mono ?_; (focus (first | with_reducible exact HS.out | with_reducible exact HS'.out | with_reducible exact nil_size)); rintro e wr ⟨rfl, hb⟩; rw [HV.out]; obtain ⟨hk, hz⟩ := bframe (B := w2.heap.size + 1) (X := (w2.alloc (.cells #[.int .i64 (ovK 1 n s 0 0 ⟨#[]⟩), .int .i64 (ovN 1 n s 0 0 ⟨#[]⟩), .string ⟨#[]⟩] 25))) (by go_grown) (by go_size) hb; have hC := fun b o h => hk.cell (p := ⟨b, o, none⟩) h; clear hb))
            all_goals go_ret
            all_goals exact ⟨rfl, chX HK2.out (by go_grown)⟩
          · have HV : Hid (okV 1 n s = true) := hv
            obtain ⟨E1, E2⟩ := over_nought hv
            clear hv hq
            refine (c_impl_Over 1 n s 0 0 ⟨#[]⟩ _ HS.out nil_size).mono ?_
            rintro e w2 ⟨rfl, hb⟩
            rw [E1, E2]
            obtain ⟨hk, hz⟩ := bframe (B := w1.heap.size + 2) (X := ((w1.alloc (.cells #[.int .i64 (1), .int .i64 (n), .string s] 25)).alloc (.cells #[.int .i64 (0), .int .i64 (0), .string ⟨#[]⟩] 25))) (by go_grown) (by go_size) hb
            clear hb
            obtain ⟨a0, a1, a2, la⟩ := carryXa hk hz
            obtain ⟨b0, b1, b2, lb⟩ := carryXb hk hz
            have HK2 : Hid (Below w.heap.size w w2) := chX2 HK1.out hk
            clear hk hz
            go_wp2_with fail
            go_region_held3 (fun w' => (∀ bq oq, bq < w2.heap.size + 1 → w'.cell? ⟨bq, oq, none⟩ = (w2.alloc (.cells #[.int .i64 (4), .int .i64 (1), .string ⟨#[]⟩] 25)).cell? ⟨bq, oq, none⟩) ∧ w2.heap.size + 1 ≤ w'.heap.size ∧ Below (w2.heap.size + 1) (w2.alloc (.cells #[.int .i64 (4), .int .i64 (1), .string ⟨#[]⟩] 25)) w')
              (exact sc_of (by go_size) (by go_grown))
              (first
              | (go_at_call 31; refine (c_spec_Over _ _ _ _ _ _ _ ?_ ?_).mono ?_; (focus (first | with_reducible exact HS.out | with_reducible exact HS'.out | with_reducible exact nil_size)); (focus (first | with_reducible exact HS.out | with_reducible exact HS'.out | with_reducible exact nil_size)); rintro e wr1 ⟨rfl, hb⟩; rw [E1, E2]; obtain ⟨hk, hz⟩ := bframe (B := w2.heap.size + 1) (X := (w2.alloc (.cells #[.int .i64 (4), .int .i64 (1), .string ⟨#[]⟩] 25))) (by go_grown) (by go_size) hb; have hC := fun b o h => hk.cell (p := ⟨b, o, none⟩) h; clear hb))
            go_wp2_with (first
              | (go_at_call 32; refine (spec_ValueOk _ _ _ _ ?_).mono ?_; (focus (first | with_reducible exact HS.out | with_reducible exact HS'.out | with_reducible exact nil_size)); rintro e wr ⟨rfl, hb⟩; rw [HV.out]; obtain ⟨hk, hz⟩ := bframe (B := w2.heap.size + 1) (X := (w2.alloc (.cells #[.int .i64 (4), .int .i64 (1), .string ⟨#[]⟩] 25))) (by go_grown) (by go_size) hb; have hC := fun b o h => hk.cell (p := ⟨b, o, none⟩) h; clear hb))
            all_goals go_ret
            all_goals exact ⟨rfl, chX HK2.out (by go_grown)⟩
        · have he' : ¬ s'.toList = [] := fun e => he (toList_inj (by rw [e]; decide +kernel))
          refine (c_impl_Over 1 n s 0 0 s' _ HS.out HS'.out).mono ?_
          rintro e w2 ⟨rfl, hb⟩
          obtain ⟨hk, hz⟩ := bframe (B := w1.heap.size + 2) (X := ((w1.alloc (.cells #[.int .i64 (1), .int .i64 (n), .string s] 25)).alloc (.cells #[.int .i64 (0), .int .i64 (0), .string s'] 25))) (by go_grown) (by go_size) hb
          clear hb
          obtain ⟨a0, a1, a2, la⟩ := carryXa hk hz
          obtain ⟨b0, b1, b2, lb⟩ := carryXb hk hz
          have HK2 : Hid (Below w.heap.size w w2) := chX2 HK1.out hk
          clear hk hz
          go_wp2_with fail
          go_region_held3 (fun w' => (∀ bq oq, bq < w2.heap.size + 1 → w'.cell? ⟨bq, oq, none⟩ = (w2.alloc (.cells #[.int .i64 (ovK 1 n s 0 0 s'), .int .i64 (ovN 1 n s 0 0 s'), .string ⟨#[]⟩] 25)).cell? ⟨bq, oq, none⟩) ∧ w2.heap.size + 1 ≤ w'.heap.size ∧ Below (w2.heap.size + 1) (w2.alloc (.cells #[.int .i64 (ovK 1 n s 0 0 s'), .int .i64 (ovN 1 n s 0 0 s'), .string ⟨#[]⟩] 25)) w')
            (exact sc_of (by go_size) (by go_grown))
            (first
            | (go_at_call 31; refine (c_spec_Over _ _ _ _ _ _ _ ?_ ?_).mono ?_; (focus (first | with_reducible exact HS.out | with_reducible exact HS'.out | with_reducible exact nil_size)); (focus (first | with_reducible exact HS.out | with_reducible exact HS'.out | with_reducible exact nil_size)); rintro e wr1 ⟨rfl, hb⟩; obtain ⟨hk, hz⟩ := bframe (B := w2.heap.size + 1) (X := (w2.alloc (.cells #[.int .i64 (ovK 1 n s 0 0 s'), .int .i64 (ovN 1 n s 0 0 s'), .string ⟨#[]⟩] 25))) (by go_grown) (by go_size) hb; have hC := fun b o h => hk.cell (p := ⟨b, o, none⟩) h; clear hb))
          all_goals go_wp2_with fail
          all_goals go_ret
          all_goals exact ⟨rfl, chX HK2.out (by go_grown)⟩
      · have hn0 : ¬ 0 = n' := fun e => hn' e.symm
        refine (c_impl_Over 1 n s 0 n' s' _ HS.out HS'.out).mono ?_
        rintro e w2 ⟨rfl, hb⟩
        obtain ⟨hk, hz⟩ := bframe (B := w1.heap.size + 2) (X := ((w1.alloc (.cells #[.int .i64 (1), .int .i64 (n), .string s] 25)).alloc (.cells #[.int .i64 (0), .int .i64 (n'), .string s'] 25))) (by go_grown) (by go_size) hb
        clear hb
        obtain ⟨a0, a1, a2, la⟩ := carryXa hk hz
        obtain ⟨b0, b1, b2, lb⟩ := carryXb hk hz
        have HK2 : Hid (Below w.heap.size w w2) := chX2 HK1.out hk
        clear hk hz
        go_wp2_with fail
        go_region_held3 (fun w' => (∀ bq oq, bq < w2.heap.size + 1 → w'.cell? ⟨bq, oq, none⟩ = (w2.alloc (.cells #[.int .i64 (ovK 1 n s 0 n' s'), .int .i64 (ovN 1 n s 0 n' s'), .string ⟨#[]⟩] 25)).cell? ⟨bq, oq, none⟩) ∧ w2.heap.size + 1 ≤ w'.heap.size ∧ Below (w2.heap.size + 1) (w2.alloc (.cells #[.int .i64 (ovK 1 n s 0 n' s'), .int .i64 (ovN 1 n s 0 n' s'), .string ⟨#[]⟩] 25)) w')
          (exact sc_of (by go_size) (by go_grown))
          (first
          | (go_at_call 31; refine (c_spec_Over _ _ _ _ _ _ _ ?_ ?_).mono ?_; (focus (first | with_reducible exact HS.out | with_reducible exact HS'.out | with_reducible exact nil_size)); (focus (first | with_reducible exact HS.out | with_reducible exact HS'.out | with_reducible exact nil_size)); rintro e wr1 ⟨rfl, hb⟩; obtain ⟨hk, hz⟩ := bframe (B := w2.heap.size + 1) (X := (w2.alloc (.cells #[.int .i64 (ovK 1 n s 0 n' s'), .int .i64 (ovN 1 n s 0 n' s'), .string ⟨#[]⟩] 25))) (by go_grown) (by go_size) hb; have hC := fun b o h => hk.cell (p := ⟨b, o, none⟩) h; clear hb))
        all_goals go_wp2_with fail
        all_goals go_ret
        all_goals exact ⟨rfl, chX HK2.out (by go_grown)⟩
    · have hk0 : ¬ 0 = k' := fun e => hk' e.symm
      refine (c_impl_Over 1 n s k' n' s' _ HS.out HS'.out).mono ?_
      rintro e w2 ⟨rfl, hb⟩
      obtain ⟨hk, hz⟩ := bframe (B := w1.heap.size + 2) (X := ((w1.alloc (.cells #[.int .i64 (1), .int .i64 (n), .string s] 25)).alloc (.cells #[.int .i64 (k'), .int .i64 (n'), .string s'] 25))) (by go_grown) (by go_size) hb
      clear hb
      obtain ⟨a0, a1, a2, la⟩ := carryXa hk hz
      obtain ⟨b0, b1, b2, lb⟩ := carryXb hk hz
      have HK2 : Hid (Below w.heap.size w w2) := chX2 HK1.out hk
      clear hk hz
      go_wp2_with fail
      go_region_held3 (fun w' => (∀ bq oq, bq < w2.heap.size + 1 → w'.cell? ⟨bq, oq, none⟩ = (w2.alloc (.cells #[.int .i64 (ovK 1 n s k' n' s'), .int .i64 (ovN 1 n s k' n' s'), .string ⟨#[]⟩] 25)).cell? ⟨bq, oq, none⟩) ∧ w2.heap.size + 1 ≤ w'.heap.size ∧ Below (w2.heap.size + 1) (w2.alloc (.cells #[.int .i64 (ovK 1 n s k' n' s'), .int .i64 (ovN 1 n s k' n' s'), .string ⟨#[]⟩] 25)) w')
        (exact sc_of (by go_size) (by go_grown))
        (first
        | (go_at_call 31; refine (c_spec_Over _ _ _ _ _ _ _ ?_ ?_).mono ?_; (focus (first | with_reducible exact HS.out | with_reducible exact HS'.out | with_reducible exact nil_size)); (focus (first | with_reducible exact HS.out | with_reducible exact HS'.out | with_reducible exact nil_size)); rintro e wr1 ⟨rfl, hb⟩; obtain ⟨hk, hz⟩ := bframe (B := w2.heap.size + 1) (X := (w2.alloc (.cells #[.int .i64 (ovK 1 n s k' n' s'), .int .i64 (ovN 1 n s k' n' s'), .string ⟨#[]⟩] 25))) (by go_grown) (by go_size) hb; have hC := fun b o h => hk.cell (p := ⟨b, o, none⟩) h; clear hb))
      all_goals go_wp2_with fail
      all_goals go_ret
      all_goals exact ⟨rfl, chX HK2.out (by go_grown)⟩
  · have hk0 : ¬ 1 = k := fun e => hk e.symm
    refine (c_impl_Over k n s k' n' s' _ HS.out HS'.out).mono ?_
    rintro e w2 ⟨rfl, hb⟩
    obtain ⟨hk, hz⟩ := bframe (B := w1.heap.size + 2) (X := ((w1.alloc (.cells #[.int .i64 (k), .int .i64 (n), .string s] 25)).alloc (.cells #[.int .i64 (k'), .int .i64 (n'), .string s'] 25))) (by go_grown) (by go_size) hb
    clear hb
    obtain ⟨a0, a1, a2, la⟩ := carryXa hk hz
    obtain ⟨b0, b1, b2, lb⟩ := carryXb hk hz
    have HK2 : Hid (Below w.heap.size w w2) := chX2 HK1.out hk
    clear hk hz
    go_wp2_with fail
    go_region_held3 (fun w' => (∀ bq oq, bq < w2.heap.size + 1 → w'.cell? ⟨bq, oq, none⟩ = (w2.alloc (.cells #[.int .i64 (ovK k n s k' n' s'), .int .i64 (ovN k n s k' n' s'), .string ⟨#[]⟩] 25)).cell? ⟨bq, oq, none⟩) ∧ w2.heap.size + 1 ≤ w'.heap.size ∧ Below (w2.heap.size + 1) (w2.alloc (.cells #[.int .i64 (ovK k n s k' n' s'), .int .i64 (ovN k n s k' n' s'), .string ⟨#[]⟩] 25)) w')
      (exact sc_of (by go_size) (by go_grown))
      (first
      | (go_at_call 31; refine (c_spec_Over _ _ _ _ _ _ _ ?_ ?_).mono ?_; (focus (first | with_reducible exact HS.out | with_reducible exact HS'.out | with_reducible exact nil_size)); (focus (first | with_reducible exact HS.out | with_reducible exact HS'.out | with_reducible exact nil_size)); rintro e wr1 ⟨rfl, hb⟩; obtain ⟨hk, hz⟩ := bframe (B := w2.heap.size + 1) (X := (w2.alloc (.cells #[.int .i64 (ovK k n s k' n' s'), .int .i64 (ovN k n s k' n' s'), .string ⟨#[]⟩] 25))) (by go_grown) (by go_size) hb; have hC := fun b o h => hk.cell (p := ⟨b, o, none⟩) h; clear hb))
    all_goals go_wp2_with fail
    all_goals go_ret
    all_goals exact ⟨rfl, chX HK2.out (by go_grown)⟩
end Go.Proofs.Ytliipepekpdkfaa
