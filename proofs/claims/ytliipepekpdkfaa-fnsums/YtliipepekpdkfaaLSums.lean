import Derived.Test.YtliipepekpdkfaaDrawF
import Derived.Test.YtliipepekpdkfaaOpenB
import Derived.Test.YtliipepekpdkfaaLawM
import Derived.Deep.RegionHeld3
import Derived.Deep.DeepCutAuto
namespace Go.Proofs.Ytliipepekpdkfaa
open Go.RowKit

set_option maxHeartbeats 8000000 in
theorem law_FnSums (A : Option Addr) (len cap : Nat) (w : World) (hz : Co w A len) : Calls Try.prog 4 #[.slice A len cap] w fun e w' =>
    e = .returned (.bool true) ∧ Below w.heap.size w w' := by
  by_cases hbig : (1048576 : Int) < (len : Int)
  · go_enter Try.func4, Try.ntmps4
    go_wp2_with fail
    refine (laws_big A len cap _).mono ?_
    rintro e wq ⟨rfl, hw⟩
    subst wq
    go_wp2_with fail
    go_ret
    exact ⟨rfl, by go_grown⟩
  have HC : Hid (Cd w A len) := ⟨by omega, hz.2⟩
  clear hz
  go_enter Try.func4, Try.ntmps4
  go_wp2_with fail
  refine (laws_big A len cap _).mono ?_
  rintro e wq ⟨rfl, hw⟩
  subst wq
  go_wp2_with fail
  refine (draw_add A len cap _ (HC.out.below (by go_grown))).mono ?_
  rintro e w1 ⟨k, n, s, k', n', s', rfl, hs, hs', hk1⟩
  have HS : Hid (s.size ≤ maxLen) := hs
  have HS' : Hid (s'.size ≤ maxLen) := hs'
  have HK1 : Hid (Below w.heap.size w w1) := hk1
  clear hs hs' hk1 HC
  go_wp2_with fail
  by_cases hs1 : addK k n s k' n' s' = 1
  · obtain ⟨X, Z, E2, E3, E4, E5, E6, E7, E8, E9, E10, E11, E12⟩ := sums_facts hs1
    have E1 := hs1
    clear hs1
    by_cases hp1 : timesK k n s k' n' s' = 1
    · obtain ⟨Y, P2, P3, P4⟩ := times_facts hp1
      have P1 := hp1
      clear hp1
      refine (c_impl_Add k n s k' n' s' _ HS.out HS'.out).mono ?_
      rintro e w2 ⟨rfl, hb⟩
      rw [E1, E2]
      obtain ⟨hk, hz⟩ := bframe (B := w1.heap.size + 2) (X := ((w1.alloc (.cells #[.int .i64 (k), .int .i64 (n), .string s] 25)).alloc (.cells #[.int .i64 (k'), .int .i64 (n'), .string s'] 25))) (by go_grown) (by go_size) hb
      clear hb
      obtain ⟨a0, a1, a2, la⟩ := carryXa hk hz
      obtain ⟨b0, b1, b2, lb⟩ := carryXb hk hz
      have HK2 : Hid (Below w.heap.size w w2) := chX2 HK1.out hk
      clear hk hz
      go_wp2_with fail
      refine (c_impl_Times k n s k' n' s' _ HS.out HS'.out).mono ?_
      rintro e w3 ⟨rfl, hb⟩
      rw [P1, P2]
      obtain ⟨hk, hz⟩ := bframe (B := w2.heap.size + 1) (X := (w2.alloc (.cells #[.int .i64 (1), .int .i64 (Z), .string ⟨#[]⟩] 25))) (by go_grown) (by go_size) hb
      clear hb
      obtain ⟨a0, a1, a2, la⟩ := carryX1 hk hz a0 a1 a2
      obtain ⟨b0, b1, b2, lb⟩ := carryX1 hk hz b0 b1 b2
      obtain ⟨s_0, s_1, s_2, ls_⟩ := carryXN hk hz
      have HK3 : Hid (Below w.heap.size w w3) := chX HK2.out hk
      clear hk hz
      go_wp2_with fail
      go_region_held3 (fun w' => (∀ bq oq, bq < w3.heap.size + 1 → w'.cell? ⟨bq, oq, none⟩ = (w3.alloc (.cells #[.int .i64 (1), .int .i64 (Y), .string ⟨#[]⟩] 25)).cell? ⟨bq, oq, none⟩) ∧ w3.heap.size + 1 ≤ w'.heap.size ∧ Below (w3.heap.size + 1) (w3.alloc (.cells #[.int .i64 (1), .int .i64 (Y), .string ⟨#[]⟩] 25)) w')
        (exact sc_of (by go_size) (by go_grown))
        (first
        | (go_at_call 23; refine (c_spec_Add _ _ _ _ _ _ _ ?_ ?_).mono ?_; (focus (first | with_reducible exact HS.out | with_reducible exact HS'.out | with_reducible exact nil_size)); (focus (first | with_reducible exact HS.out | with_reducible exact HS'.out | with_reducible exact nil_size)); rintro e wr ⟨rfl, hb⟩; rw [E1, E2]; obtain ⟨hk, hz⟩ := bframe (B := w3.heap.size + 1) (X := (w3.alloc (.cells #[.int .i64 (1), .int .i64 (Y), .string ⟨#[]⟩] 25))) (by go_grown) (by go_size) hb; have hC := fun b o h => hk.cell (p := ⟨b, o, none⟩) h; clear hb)
        | (go_at_call 24; refine (c_spec_Times _ _ _ _ _ _ _ ?_ ?_).mono ?_; (focus (first | with_reducible exact HS.out | with_reducible exact HS'.out | with_reducible exact nil_size)); (focus (first | with_reducible exact HS.out | with_reducible exact HS'.out | with_reducible exact nil_size)); rintro e wr ⟨rfl, hb⟩; rw [P1, P2]; obtain ⟨hk, hz⟩ := bframe (B := w3.heap.size + 1) (X := (w3.alloc (.cells #[.int .i64 (1), .int .i64 (Y), .string ⟨#[]⟩] 25))) (by go_grown) (by go_size) hb; have hC := fun b o h => hk.cell (p := ⟨b, o, none⟩) h; clear hb)
        | (go_at_call 25; refine (c_impl_Less _ _ _ _ _ _ _ ?_ ?_).mono ?_; (focus (first | with_reducible exact HS.out | with_reducible exact HS'.out | with_reducible exact nil_size)); (focus (first | with_reducible exact HS.out | with_reducible exact HS'.out | with_reducible exact nil_size)); rintro e wr ⟨rfl, hb⟩; obtain ⟨hk, hz⟩ := bframe (B := w3.heap.size + 1) (X := (w3.alloc (.cells #[.int .i64 (1), .int .i64 (Y), .string ⟨#[]⟩] 25))) (by go_grown) (by go_size) hb; have hC := fun b o h => hk.cell (p := ⟨b, o, none⟩) h; clear hb)
        | (go_at_call 26; refine (c_spec_Less _ _ _ _ _ _ _ ?_ ?_).mono ?_; (focus (first | with_reducible exact HS.out | with_reducible exact HS'.out | with_reducible exact nil_size)); (focus (first | with_reducible exact HS.out | with_reducible exact HS'.out | with_reducible exact nil_size)); rintro e wr ⟨rfl, hb⟩; obtain ⟨hk, hz⟩ := bframe (B := w3.heap.size + 1) (X := (w3.alloc (.cells #[.int .i64 (1), .int .i64 (Y), .string ⟨#[]⟩] 25))) (by go_grown) (by go_size) hb; have hC := fun b o h => hk.cell (p := ⟨b, o, none⟩) h; clear hb)
        | (go_at_call 27; refine (c_impl_Negated _ _ _ _ ?_).mono ?_; (focus (first | with_reducible exact HS.out | with_reducible exact HS'.out | with_reducible exact nil_size)); rintro e wr ⟨rfl, hb⟩; obtain ⟨hk, hz⟩ := bframe (B := w3.heap.size + 1) (X := (w3.alloc (.cells #[.int .i64 (1), .int .i64 (Y), .string ⟨#[]⟩] 25))) (by go_grown) (by go_size) hb; have hC := fun b o h => hk.cell (p := ⟨b, o, none⟩) h; clear hb)
        | (go_at_call 28; refine (c_spec_Negated _ _ _ _ ?_).mono ?_; (focus (first | with_reducible exact HS.out | with_reducible exact HS'.out | with_reducible exact nil_size)); rintro e wr ⟨rfl, hb⟩; obtain ⟨hk, hz⟩ := bframe (B := w3.heap.size + 1) (X := (w3.alloc (.cells #[.int .i64 (1), .int .i64 (Y), .string ⟨#[]⟩] 25))) (by go_grown) (by go_size) hb; have hC := fun b o h => hk.cell (p := ⟨b, o, none⟩) h; clear hb))
      go_wp2_with fail
      refine (c_impl_Add k' n' s' k n s _ HS'.out HS.out).mono ?_
      rintro e w4 ⟨rfl, hb⟩
      rw [E3, E4]
      obtain ⟨hk, hz⟩ := bframe (B := w3.heap.size + 1) (X := (w3.alloc (.cells #[.int .i64 (1), .int .i64 (Y), .string ⟨#[]⟩] 25))) (by go_grown) (by go_size) hb
      clear hb
      obtain ⟨a0, a1, a2, la⟩ := carryX1 hk hz a0 a1 a2
      obtain ⟨b0, b1, b2, lb⟩ := carryX1 hk hz b0 b1 b2
      obtain ⟨s_0, s_1, s_2, ls_⟩ := carryX1 hk hz s_0 s_1 s_2
      obtain ⟨p_0, p_1, p_2, lp_⟩ := carryXN hk hz
      have HK4 : Hid (Below w.heap.size w w4) := chX HK3.out hk
      clear hk hz
      go_wp2_with fail
      refine (c_impl_Times k' n' s' k n s _ HS'.out HS.out).mono ?_
      rintro e w5 ⟨rfl, hb⟩
      rw [P3, P4]
      obtain ⟨hk, hz⟩ := bframe (B := w4.heap.size + 1) (X := (w4.alloc (.cells #[.int .i64 (1), .int .i64 (Z), .string ⟨#[]⟩] 25))) (by go_grown) (by go_size) hb
      clear hb
      obtain ⟨a0, a1, a2, la⟩ := carryX1 hk hz a0 a1 a2
      obtain ⟨b0, b1, b2, lb⟩ := carryX1 hk hz b0 b1 b2
      obtain ⟨s_0, s_1, s_2, ls_⟩ := carryX1 hk hz s_0 s_1 s_2
      obtain ⟨p_0, p_1, p_2, lp_⟩ := carryX1 hk hz p_0 p_1 p_2
      obtain ⟨t_0, t_1, t_2, lt_⟩ := carryXN hk hz
      have HK5 : Hid (Below w.heap.size w w5) := chX HK4.out hk
      clear hk hz
      go_wp2_with fail
      refine (c_impl_Less 1 Z ⟨#[]⟩ k' n' s' _ nil_size HS'.out).mono ?_
      rintro e w6 ⟨rfl, hb⟩
      rw [E5, E6]
      obtain ⟨hk, hz⟩ := bframe (B := w5.heap.size + 1) (X := (w5.alloc (.cells #[.int .i64 (1), .int .i64 (Y), .string ⟨#[]⟩] 25))) (by go_grown) (by go_size) hb
      clear hb
      obtain ⟨a0, a1, a2, la⟩ := carryX1 hk hz a0 a1 a2
      obtain ⟨b0, b1, b2, lb⟩ := carryX1 hk hz b0 b1 b2
      obtain ⟨s_0, s_1, s_2, ls_⟩ := carryX1 hk hz s_0 s_1 s_2
      obtain ⟨p_0, p_1, p_2, lp_⟩ := carryX1 hk hz p_0 p_1 p_2
      obtain ⟨t_0, t_1, t_2, lt_⟩ := carryX1 hk hz t_0 t_1 t_2
      obtain ⟨q_0, q_1, q_2, lq_⟩ := carryXN hk hz
      have HK6 : Hid (Below w.heap.size w w6) := chX HK5.out hk
      clear hk hz
      go_wp2_with fail
      go_region_held3 (fun w' => (∀ bq oq, bq < w6.heap.size + 1 → w'.cell? ⟨bq, oq, none⟩ = (w6.alloc (.cells #[.int .i64 (1), .int .i64 (X), .string ⟨#[]⟩] 25)).cell? ⟨bq, oq, none⟩) ∧ w6.heap.size + 1 ≤ w'.heap.size ∧ Below (w6.heap.size + 1) (w6.alloc (.cells #[.int .i64 (1), .int .i64 (X), .string ⟨#[]⟩] 25)) w')
        (exact sc_of (by go_size) (by go_grown))
        (first
        | (go_at_call 25; refine (c_impl_Less _ _ _ _ _ _ _ ?_ ?_).mono ?_; (focus (first | with_reducible exact HS.out | with_reducible exact HS'.out | with_reducible exact nil_size)); (focus (first | with_reducible exact HS.out | with_reducible exact HS'.out | with_reducible exact nil_size)); rintro e wr ⟨rfl, hb⟩; (first | rw [E7, E8] | rw [E9, E10]); obtain ⟨hk, hz⟩ := bframe (B := w6.heap.size + 1) (X := (w6.alloc (.cells #[.int .i64 (1), .int .i64 (X), .string ⟨#[]⟩] 25))) (by go_grown) (by go_size) hb; have hC := fun b o h => hk.cell (p := ⟨b, o, none⟩) h; clear hb)
        | (go_at_call 27; refine (c_impl_Negated _ _ _ _ ?_).mono ?_; (focus (first | with_reducible exact HS.out | with_reducible exact HS'.out | with_reducible exact nil_size)); rintro e wr ⟨rfl, hb⟩; rw [E11, E12]; obtain ⟨hk, hz⟩ := bframe (B := w6.heap.size + 1) (X := (w6.alloc (.cells #[.int .i64 (1), .int .i64 (X), .string ⟨#[]⟩] 25))) (by go_grown) (by go_size) hb; have hC := fun b o h => hk.cell (p := ⟨b, o, none⟩) h; clear hb))
      go_wp2_with fail
      all_goals go_ret
      all_goals exact ⟨rfl, chX HK6.out (by go_grown)⟩
    · skip
      refine (c_impl_Add k n s k' n' s' _ HS.out HS'.out).mono ?_
      rintro e w2 ⟨rfl, hb⟩
      rw [E1, E2]
      obtain ⟨hk, hz⟩ := bframe (B := w1.heap.size + 2) (X := ((w1.alloc (.cells #[.int .i64 (k), .int .i64 (n), .string s] 25)).alloc (.cells #[.int .i64 (k'), .int .i64 (n'), .string s'] 25))) (by go_grown) (by go_size) hb
      clear hb
      obtain ⟨a0, a1, a2, la⟩ := carryXa hk hz
      obtain ⟨b0, b1, b2, lb⟩ := carryXb hk hz
      have HK2 : Hid (Below w.heap.size w w2) := chX2 HK1.out hk
      clear hk hz
      go_wp2_with fail
      refine (c_impl_Times k n s k' n' s' _ HS.out HS'.out).mono ?_
      rintro e w3 ⟨rfl, hb⟩
      obtain ⟨hk, hz⟩ := bframe (B := w2.heap.size + 1) (X := (w2.alloc (.cells #[.int .i64 (1), .int .i64 (Z), .string ⟨#[]⟩] 25))) (by go_grown) (by go_size) hb
      clear hb
      obtain ⟨a0, a1, a2, la⟩ := carryX1 hk hz a0 a1 a2
      obtain ⟨b0, b1, b2, lb⟩ := carryX1 hk hz b0 b1 b2
      obtain ⟨s_0, s_1, s_2, ls_⟩ := carryXN hk hz
      have HK3 : Hid (Below w.heap.size w w3) := chX HK2.out hk
      clear hk hz
      go_wp2_with fail
      go_region_held3 (fun w' => (∀ bq oq, bq < w3.heap.size + 1 → w'.cell? ⟨bq, oq, none⟩ = (w3.alloc (.cells #[.int .i64 (timesK k n s k' n' s'), .int .i64 (timesN k n s k' n' s'), .string ⟨#[]⟩] 25)).cell? ⟨bq, oq, none⟩) ∧ w3.heap.size + 1 ≤ w'.heap.size ∧ Below (w3.heap.size + 1) (w3.alloc (.cells #[.int .i64 (timesK k n s k' n' s'), .int .i64 (timesN k n s k' n' s'), .string ⟨#[]⟩] 25)) w')
        (exact sc_of (by go_size) (by go_grown))
        (first
        | (go_at_call 23; refine (c_spec_Add _ _ _ _ _ _ _ ?_ ?_).mono ?_; (focus (first | with_reducible exact HS.out | with_reducible exact HS'.out | with_reducible exact nil_size)); (focus (first | with_reducible exact HS.out | with_reducible exact HS'.out | with_reducible exact nil_size)); rintro e wr ⟨rfl, hb⟩; rw [E1, E2]; obtain ⟨hk, hz⟩ := bframe (B := w3.heap.size + 1) (X := (w3.alloc (.cells #[.int .i64 (timesK k n s k' n' s'), .int .i64 (timesN k n s k' n' s'), .string ⟨#[]⟩] 25))) (by go_grown) (by go_size) hb; have hC := fun b o h => hk.cell (p := ⟨b, o, none⟩) h; clear hb)
        | (go_at_call 24; refine (c_spec_Times _ _ _ _ _ _ _ ?_ ?_).mono ?_; (focus (first | with_reducible exact HS.out | with_reducible exact HS'.out | with_reducible exact nil_size)); (focus (first | with_reducible exact HS.out | with_reducible exact HS'.out | with_reducible exact nil_size)); rintro e wr ⟨rfl, hb⟩; obtain ⟨hk, hz⟩ := bframe (B := w3.heap.size + 1) (X := (w3.alloc (.cells #[.int .i64 (timesK k n s k' n' s'), .int .i64 (timesN k n s k' n' s'), .string ⟨#[]⟩] 25))) (by go_grown) (by go_size) hb; have hC := fun b o h => hk.cell (p := ⟨b, o, none⟩) h; clear hb)
        | (go_at_call 25; refine (c_impl_Less _ _ _ _ _ _ _ ?_ ?_).mono ?_; (focus (first | with_reducible exact HS.out | with_reducible exact HS'.out | with_reducible exact nil_size)); (focus (first | with_reducible exact HS.out | with_reducible exact HS'.out | with_reducible exact nil_size)); rintro e wr ⟨rfl, hb⟩; obtain ⟨hk, hz⟩ := bframe (B := w3.heap.size + 1) (X := (w3.alloc (.cells #[.int .i64 (timesK k n s k' n' s'), .int .i64 (timesN k n s k' n' s'), .string ⟨#[]⟩] 25))) (by go_grown) (by go_size) hb; have hC := fun b o h => hk.cell (p := ⟨b, o, none⟩) h; clear hb)
        | (go_at_call 26; refine (c_spec_Less _ _ _ _ _ _ _ ?_ ?_).mono ?_; (focus (first | with_reducible exact HS.out | with_reducible exact HS'.out | with_reducible exact nil_size)); (focus (first | with_reducible exact HS.out | with_reducible exact HS'.out | with_reducible exact nil_size)); rintro e wr ⟨rfl, hb⟩; obtain ⟨hk, hz⟩ := bframe (B := w3.heap.size + 1) (X := (w3.alloc (.cells #[.int .i64 (timesK k n s k' n' s'), .int .i64 (timesN k n s k' n' s'), .string ⟨#[]⟩] 25))) (by go_grown) (by go_size) hb; have hC := fun b o h => hk.cell (p := ⟨b, o, none⟩) h; clear hb)
        | (go_at_call 27; refine (c_impl_Negated _ _ _ _ ?_).mono ?_; (focus (first | with_reducible exact HS.out | with_reducible exact HS'.out | with_reducible exact nil_size)); rintro e wr ⟨rfl, hb⟩; obtain ⟨hk, hz⟩ := bframe (B := w3.heap.size + 1) (X := (w3.alloc (.cells #[.int .i64 (timesK k n s k' n' s'), .int .i64 (timesN k n s k' n' s'), .string ⟨#[]⟩] 25))) (by go_grown) (by go_size) hb; have hC := fun b o h => hk.cell (p := ⟨b, o, none⟩) h; clear hb)
        | (go_at_call 28; refine (c_spec_Negated _ _ _ _ ?_).mono ?_; (focus (first | with_reducible exact HS.out | with_reducible exact HS'.out | with_reducible exact nil_size)); rintro e wr ⟨rfl, hb⟩; obtain ⟨hk, hz⟩ := bframe (B := w3.heap.size + 1) (X := (w3.alloc (.cells #[.int .i64 (timesK k n s k' n' s'), .int .i64 (timesN k n s k' n' s'), .string ⟨#[]⟩] 25))) (by go_grown) (by go_size) hb; have hC := fun b o h => hk.cell (p := ⟨b, o, none⟩) h; clear hb))
      go_wp2_with fail
      refine (c_impl_Add k' n' s' k n s _ HS'.out HS.out).mono ?_
      rintro e w4 ⟨rfl, hb⟩
      rw [E3, E4]
      obtain ⟨hk, hz⟩ := bframe (B := w3.heap.size + 1) (X := (w3.alloc (.cells #[.int .i64 (timesK k n s k' n' s'), .int .i64 (timesN k n s k' n' s'), .string ⟨#[]⟩] 25))) (by go_grown) (by go_size) hb
      clear hb
      obtain ⟨a0, a1, a2, la⟩ := carryX1 hk hz a0 a1 a2
      obtain ⟨b0, b1, b2, lb⟩ := carryX1 hk hz b0 b1 b2
      obtain ⟨s_0, s_1, s_2, ls_⟩ := carryX1 hk hz s_0 s_1 s_2
      obtain ⟨p_0, p_1, p_2, lp_⟩ := carryXN hk hz
      have HK4 : Hid (Below w.heap.size w w4) := chX HK3.out hk
      clear hk hz
      go_wp2_with fail
      refine (c_impl_Times k' n' s' k n s _ HS'.out HS.out).mono ?_
      rintro e w5 ⟨rfl, hb⟩
      obtain ⟨hk, hz⟩ := bframe (B := w4.heap.size + 1) (X := (w4.alloc (.cells #[.int .i64 (1), .int .i64 (Z), .string ⟨#[]⟩] 25))) (by go_grown) (by go_size) hb
      clear hb
      obtain ⟨a0, a1, a2, la⟩ := carryX1 hk hz a0 a1 a2
      obtain ⟨b0, b1, b2, lb⟩ := carryX1 hk hz b0 b1 b2
      obtain ⟨s_0, s_1, s_2, ls_⟩ := carryX1 hk hz s_0 s_1 s_2
      obtain ⟨p_0, p_1, p_2, lp_⟩ := carryX1 hk hz p_0 p_1 p_2
      obtain ⟨t_0, t_1, t_2, lt_⟩ := carryXN hk hz
      have HK5 : Hid (Below w.heap.size w w5) := chX HK4.out hk
      clear hk hz
      go_wp2_with fail
      refine (c_impl_Less 1 Z ⟨#[]⟩ k' n' s' _ nil_size HS'.out).mono ?_
      rintro e w6 ⟨rfl, hb⟩
      rw [E5, E6]
      obtain ⟨hk, hz⟩ := bframe (B := w5.heap.size + 1) (X := (w5.alloc (.cells #[.int .i64 (timesK k' n' s' k n s), .int .i64 (timesN k' n' s' k n s), .string ⟨#[]⟩] 25))) (by go_grown) (by go_size) hb
      clear hb
      obtain ⟨a0, a1, a2, la⟩ := carryX1 hk hz a0 a1 a2
      obtain ⟨b0, b1, b2, lb⟩ := carryX1 hk hz b0 b1 b2
      obtain ⟨s_0, s_1, s_2, ls_⟩ := carryX1 hk hz s_0 s_1 s_2
      obtain ⟨p_0, p_1, p_2, lp_⟩ := carryX1 hk hz p_0 p_1 p_2
      obtain ⟨t_0, t_1, t_2, lt_⟩ := carryX1 hk hz t_0 t_1 t_2
      obtain ⟨q_0, q_1, q_2, lq_⟩ := carryXN hk hz
      have HK6 : Hid (Below w.heap.size w w6) := chX HK5.out hk
      clear hk hz
      go_wp2_with fail
      go_region_held3 (fun w' => (∀ bq oq, bq < w6.heap.size + 1 → w'.cell? ⟨bq, oq, none⟩ = (w6.alloc (.cells #[.int .i64 (1), .int .i64 (X), .string ⟨#[]⟩] 25)).cell? ⟨bq, oq, none⟩) ∧ w6.heap.size + 1 ≤ w'.heap.size ∧ Below (w6.heap.size + 1) (w6.alloc (.cells #[.int .i64 (1), .int .i64 (X), .string ⟨#[]⟩] 25)) w')
        (exact sc_of (by go_size) (by go_grown))
        (first
        | (go_at_call 25; refine (c_impl_Less _ _ _ _ _ _ _ ?_ ?_).mono ?_; (focus (first | with_reducible exact HS.out | with_reducible exact HS'.out | with_reducible exact nil_size)); (focus (first | with_reducible exact HS.out | with_reducible exact HS'.out | with_reducible exact nil_size)); rintro e wr ⟨rfl, hb⟩; (first | rw [E7, E8] | rw [E9, E10]); obtain ⟨hk, hz⟩ := bframe (B := w6.heap.size + 1) (X := (w6.alloc (.cells #[.int .i64 (1), .int .i64 (X), .string ⟨#[]⟩] 25))) (by go_grown) (by go_size) hb; have hC := fun b o h => hk.cell (p := ⟨b, o, none⟩) h; clear hb)
        | (go_at_call 27; refine (c_impl_Negated _ _ _ _ ?_).mono ?_; (focus (first | with_reducible exact HS.out | with_reducible exact HS'.out | with_reducible exact nil_size)); rintro e wr ⟨rfl, hb⟩; rw [E11, E12]; obtain ⟨hk, hz⟩ := bframe (B := w6.heap.size + 1) (X := (w6.alloc (.cells #[.int .i64 (1), .int .i64 (X), .string ⟨#[]⟩] 25))) (by go_grown) (by go_size) hb; have hC := fun b o h => hk.cell (p := ⟨b, o, none⟩) h; clear hb))
      go_wp2_with fail
      all_goals go_ret
      all_goals exact ⟨rfl, chX HK6.out (by go_grown)⟩
  · by_cases hp1 : timesK k n s k' n' s' = 1
    · obtain ⟨Y, P2, P3, P4⟩ := times_facts hp1
      have P1 := hp1
      clear hp1
      refine (c_impl_Add k n s k' n' s' _ HS.out HS'.out).mono ?_
      rintro e w2 ⟨rfl, hb⟩
      obtain ⟨hk, hz⟩ := bframe (B := w1.heap.size + 2) (X := ((w1.alloc (.cells #[.int .i64 (k), .int .i64 (n), .string s] 25)).alloc (.cells #[.int .i64 (k'), .int .i64 (n'), .string s'] 25))) (by go_grown) (by go_size) hb
      clear hb
      obtain ⟨a0, a1, a2, la⟩ := carryXa hk hz
      obtain ⟨b0, b1, b2, lb⟩ := carryXb hk hz
      have HK2 : Hid (Below w.heap.size w w2) := chX2 HK1.out hk
      clear hk hz
      go_wp2_with fail
      refine (c_impl_Times k n s k' n' s' _ HS.out HS'.out).mono ?_
      rintro e w3 ⟨rfl, hb⟩
      rw [P1, P2]
      obtain ⟨hk, hz⟩ := bframe (B := w2.heap.size + 1) (X := (w2.alloc (.cells #[.int .i64 (addK k n s k' n' s'), .int .i64 (addN k n s k' n' s'), .string ⟨#[]⟩] 25))) (by go_grown) (by go_size) hb
      clear hb
      obtain ⟨a0, a1, a2, la⟩ := carryX1 hk hz a0 a1 a2
      obtain ⟨b0, b1, b2, lb⟩ := carryX1 hk hz b0 b1 b2
      obtain ⟨s_0, s_1, s_2, ls_⟩ := carryXN hk hz
      have HK3 : Hid (Below w.heap.size w w3) := chX HK2.out hk
      clear hk hz
      go_wp2_with fail
      go_region_held3 (fun w' => (∀ bq oq, bq < w3.heap.size + 1 → w'.cell? ⟨bq, oq, none⟩ = (w3.alloc (.cells #[.int .i64 (1), .int .i64 (Y), .string ⟨#[]⟩] 25)).cell? ⟨bq, oq, none⟩) ∧ w3.heap.size + 1 ≤ w'.heap.size ∧ Below (w3.heap.size + 1) (w3.alloc (.cells #[.int .i64 (1), .int .i64 (Y), .string ⟨#[]⟩] 25)) w')
        (exact sc_of (by go_size) (by go_grown))
        (first
        | (go_at_call 23; refine (c_spec_Add _ _ _ _ _ _ _ ?_ ?_).mono ?_; (focus (first | with_reducible exact HS.out | with_reducible exact HS'.out | with_reducible exact nil_size)); (focus (first | with_reducible exact HS.out | with_reducible exact HS'.out | with_reducible exact nil_size)); rintro e wr ⟨rfl, hb⟩; obtain ⟨hk, hz⟩ := bframe (B := w3.heap.size + 1) (X := (w3.alloc (.cells #[.int .i64 (1), .int .i64 (Y), .string ⟨#[]⟩] 25))) (by go_grown) (by go_size) hb; have hC := fun b o h => hk.cell (p := ⟨b, o, none⟩) h; clear hb)
        | (go_at_call 24; refine (c_spec_Times _ _ _ _ _ _ _ ?_ ?_).mono ?_; (focus (first | with_reducible exact HS.out | with_reducible exact HS'.out | with_reducible exact nil_size)); (focus (first | with_reducible exact HS.out | with_reducible exact HS'.out | with_reducible exact nil_size)); rintro e wr ⟨rfl, hb⟩; rw [P1, P2]; obtain ⟨hk, hz⟩ := bframe (B := w3.heap.size + 1) (X := (w3.alloc (.cells #[.int .i64 (1), .int .i64 (Y), .string ⟨#[]⟩] 25))) (by go_grown) (by go_size) hb; have hC := fun b o h => hk.cell (p := ⟨b, o, none⟩) h; clear hb)
        | (go_at_call 25; refine (c_impl_Less _ _ _ _ _ _ _ ?_ ?_).mono ?_; (focus (first | with_reducible exact HS.out | with_reducible exact HS'.out | with_reducible exact nil_size)); (focus (first | with_reducible exact HS.out | with_reducible exact HS'.out | with_reducible exact nil_size)); rintro e wr ⟨rfl, hb⟩; obtain ⟨hk, hz⟩ := bframe (B := w3.heap.size + 1) (X := (w3.alloc (.cells #[.int .i64 (1), .int .i64 (Y), .string ⟨#[]⟩] 25))) (by go_grown) (by go_size) hb; have hC := fun b o h => hk.cell (p := ⟨b, o, none⟩) h; clear hb)
        | (go_at_call 26; refine (c_spec_Less _ _ _ _ _ _ _ ?_ ?_).mono ?_; (focus (first | with_reducible exact HS.out | with_reducible exact HS'.out | with_reducible exact nil_size)); (focus (first | with_reducible exact HS.out | with_reducible exact HS'.out | with_reducible exact nil_size)); rintro e wr ⟨rfl, hb⟩; obtain ⟨hk, hz⟩ := bframe (B := w3.heap.size + 1) (X := (w3.alloc (.cells #[.int .i64 (1), .int .i64 (Y), .string ⟨#[]⟩] 25))) (by go_grown) (by go_size) hb; have hC := fun b o h => hk.cell (p := ⟨b, o, none⟩) h; clear hb)
        | (go_at_call 27; refine (c_impl_Negated _ _ _ _ ?_).mono ?_; (focus (first | with_reducible exact HS.out | with_reducible exact HS'.out | with_reducible exact nil_size)); rintro e wr ⟨rfl, hb⟩; obtain ⟨hk, hz⟩ := bframe (B := w3.heap.size + 1) (X := (w3.alloc (.cells #[.int .i64 (1), .int .i64 (Y), .string ⟨#[]⟩] 25))) (by go_grown) (by go_size) hb; have hC := fun b o h => hk.cell (p := ⟨b, o, none⟩) h; clear hb)
        | (go_at_call 28; refine (c_spec_Negated _ _ _ _ ?_).mono ?_; (focus (first | with_reducible exact HS.out | with_reducible exact HS'.out | with_reducible exact nil_size)); rintro e wr ⟨rfl, hb⟩; obtain ⟨hk, hz⟩ := bframe (B := w3.heap.size + 1) (X := (w3.alloc (.cells #[.int .i64 (1), .int .i64 (Y), .string ⟨#[]⟩] 25))) (by go_grown) (by go_size) hb; have hC := fun b o h => hk.cell (p := ⟨b, o, none⟩) h; clear hb))
      go_wp2_with fail
      refine (c_impl_Add k' n' s' k n s _ HS'.out HS.out).mono ?_
      rintro e w4 ⟨rfl, hb⟩
      obtain ⟨hk, hz⟩ := bframe (B := w3.heap.size + 1) (X := (w3.alloc (.cells #[.int .i64 (1), .int .i64 (Y), .string ⟨#[]⟩] 25))) (by go_grown) (by go_size) hb
      clear hb
      obtain ⟨a0, a1, a2, la⟩ := carryX1 hk hz a0 a1 a2
      obtain ⟨b0, b1, b2, lb⟩ := carryX1 hk hz b0 b1 b2
      obtain ⟨s_0, s_1, s_2, ls_⟩ := carryX1 hk hz s_0 s_1 s_2
      obtain ⟨p_0, p_1, p_2, lp_⟩ := carryXN hk hz
      have HK4 : Hid (Below w.heap.size w w4) := chX HK3.out hk
      clear hk hz
      go_wp2_with fail
      refine (c_impl_Times k' n' s' k n s _ HS'.out HS.out).mono ?_
      rintro e w5 ⟨rfl, hb⟩
      rw [P3, P4]
      obtain ⟨hk, hz⟩ := bframe (B := w4.heap.size + 1) (X := (w4.alloc (.cells #[.int .i64 (addK k' n' s' k n s), .int .i64 (addN k' n' s' k n s), .string ⟨#[]⟩] 25))) (by go_grown) (by go_size) hb
      clear hb
      obtain ⟨a0, a1, a2, la⟩ := carryX1 hk hz a0 a1 a2
      obtain ⟨b0, b1, b2, lb⟩ := carryX1 hk hz b0 b1 b2
      obtain ⟨s_0, s_1, s_2, ls_⟩ := carryX1 hk hz s_0 s_1 s_2
      obtain ⟨p_0, p_1, p_2, lp_⟩ := carryX1 hk hz p_0 p_1 p_2
      obtain ⟨t_0, t_1, t_2, lt_⟩ := carryXN hk hz
      have HK5 : Hid (Below w.heap.size w w5) := chX HK4.out hk
      clear hk hz
      go_wp2_with fail
      all_goals go_ret
      all_goals exact ⟨rfl, chX HK5.out (by go_grown)⟩
    · skip
      refine (c_impl_Add k n s k' n' s' _ HS.out HS'.out).mono ?_
      rintro e w2 ⟨rfl, hb⟩
      obtain ⟨hk, hz⟩ := bframe (B := w1.heap.size + 2) (X := ((w1.alloc (.cells #[.int .i64 (k), .int .i64 (n), .string s] 25)).alloc (.cells #[.int .i64 (k'), .int .i64 (n'), .string s'] 25))) (by go_grown) (by go_size) hb
      clear hb
      obtain ⟨a0, a1, a2, la⟩ := carryXa hk hz
      obtain ⟨b0, b1, b2, lb⟩ := carryXb hk hz
      have HK2 : Hid (Below w.heap.size w w2) := chX2 HK1.out hk
      clear hk hz
      go_wp2_with fail
      refine (c_impl_Times k n s k' n' s' _ HS.out HS'.out).mono ?_
      rintro e w3 ⟨rfl, hb⟩
      obtain ⟨hk, hz⟩ := bframe (B := w2.heap.size + 1) (X := (w2.alloc (.cells #[.int .i64 (addK k n s k' n' s'), .int .i64 (addN k n s k' n' s'), .string ⟨#[]⟩] 25))) (by go_grown) (by go_size) hb
      clear hb
      obtain ⟨a0, a1, a2, la⟩ := carryX1 hk hz a0 a1 a2
      obtain ⟨b0, b1, b2, lb⟩ := carryX1 hk hz b0 b1 b2
      obtain ⟨s_0, s_1, s_2, ls_⟩ := carryXN hk hz
      have HK3 : Hid (Below w.heap.size w w3) := chX HK2.out hk
      clear hk hz
      go_wp2_with fail
      go_region_held3 (fun w' => (∀ bq oq, bq < w3.heap.size + 1 → w'.cell? ⟨bq, oq, none⟩ = (w3.alloc (.cells #[.int .i64 (timesK k n s k' n' s'), .int .i64 (timesN k n s k' n' s'), .string ⟨#[]⟩] 25)).cell? ⟨bq, oq, none⟩) ∧ w3.heap.size + 1 ≤ w'.heap.size ∧ Below (w3.heap.size + 1) (w3.alloc (.cells #[.int .i64 (timesK k n s k' n' s'), .int .i64 (timesN k n s k' n' s'), .string ⟨#[]⟩] 25)) w')
        (exact sc_of (by go_size) (by go_grown))
        (first
        | (go_at_call 23; refine (c_spec_Add _ _ _ _ _ _ _ ?_ ?_).mono ?_; (focus (first | with_reducible exact HS.out | with_reducible exact HS'.out | with_reducible exact nil_size)); (focus (first | with_reducible exact HS.out | with_reducible exact HS'.out | with_reducible exact nil_size)); rintro e wr ⟨rfl, hb⟩; obtain ⟨hk, hz⟩ := bframe (B := w3.heap.size + 1) (X := (w3.alloc (.cells #[.int .i64 (timesK k n s k' n' s'), .int .i64 (timesN k n s k' n' s'), .string ⟨#[]⟩] 25))) (by go_grown) (by go_size) hb; have hC := fun b o h => hk.cell (p := ⟨b, o, none⟩) h; clear hb)
        | (go_at_call 24; refine (c_spec_Times _ _ _ _ _ _ _ ?_ ?_).mono ?_; (focus (first | with_reducible exact HS.out | with_reducible exact HS'.out | with_reducible exact nil_size)); (focus (first | with_reducible exact HS.out | with_reducible exact HS'.out | with_reducible exact nil_size)); rintro e wr ⟨rfl, hb⟩; obtain ⟨hk, hz⟩ := bframe (B := w3.heap.size + 1) (X := (w3.alloc (.cells #[.int .i64 (timesK k n s k' n' s'), .int .i64 (timesN k n s k' n' s'), .string ⟨#[]⟩] 25))) (by go_grown) (by go_size) hb; have hC := fun b o h => hk.cell (p := ⟨b, o, none⟩) h; clear hb)
        | (go_at_call 25; refine (c_impl_Less _ _ _ _ _ _ _ ?_ ?_).mono ?_; (focus (first | with_reducible exact HS.out | with_reducible exact HS'.out | with_reducible exact nil_size)); (focus (first | with_reducible exact HS.out | with_reducible exact HS'.out | with_reducible exact nil_size)); rintro e wr ⟨rfl, hb⟩; obtain ⟨hk, hz⟩ := bframe (B := w3.heap.size + 1) (X := (w3.alloc (.cells #[.int .i64 (timesK k n s k' n' s'), .int .i64 (timesN k n s k' n' s'), .string ⟨#[]⟩] 25))) (by go_grown) (by go_size) hb; have hC := fun b o h => hk.cell (p := ⟨b, o, none⟩) h; clear hb)
        | (go_at_call 26; refine (c_spec_Less _ _ _ _ _ _ _ ?_ ?_).mono ?_; (focus (first | with_reducible exact HS.out | with_reducible exact HS'.out | with_reducible exact nil_size)); (focus (first | with_reducible exact HS.out | with_reducible exact HS'.out | with_reducible exact nil_size)); rintro e wr ⟨rfl, hb⟩; obtain ⟨hk, hz⟩ := bframe (B := w3.heap.size + 1) (X := (w3.alloc (.cells #[.int .i64 (timesK k n s k' n' s'), .int .i64 (timesN k n s k' n' s'), .string ⟨#[]⟩] 25))) (by go_grown) (by go_size) hb; have hC := fun b o h => hk.cell (p := ⟨b, o, none⟩) h; clear hb)
        | (go_at_call 27; refine (c_impl_Negated _ _ _ _ ?_).mono ?_; (focus (first | with_reducible exact HS.out | with_reducible exact HS'.out | with_reducible exact nil_size)); rintro e wr ⟨rfl, hb⟩; obtain ⟨hk, hz⟩ := bframe (B := w3.heap.size + 1) (X := (w3.alloc (.cells #[.int .i64 (timesK k n s k' n' s'), .int .i64 (timesN k n s k' n' s'), .string ⟨#[]⟩] 25))) (by go_grown) (by go_size) hb; have hC := fun b o h => hk.cell (p := ⟨b, o, none⟩) h; clear hb)
        | (go_at_call 28; refine (c_spec_Negated _ _ _ _ ?_).mono ?_; (focus (first | with_reducible exact HS.out | with_reducible exact HS'.out | with_reducible exact nil_size)); rintro e wr ⟨rfl, hb⟩; obtain ⟨hk, hz⟩ := bframe (B := w3.heap.size + 1) (X := (w3.alloc (.cells #[.int .i64 (timesK k n s k' n' s'), .int .i64 (timesN k n s k' n' s'), .string ⟨#[]⟩] 25))) (by go_grown) (by go_size) hb; have hC := fun b o h => hk.cell (p := ⟨b, o, none⟩) h; clear hb))
      go_wp2_with fail
      refine (c_impl_Add k' n' s' k n s _ HS'.out HS.out).mono ?_
      rintro e w4 ⟨rfl, hb⟩
      obtain ⟨hk, hz⟩ := bframe (B := w3.heap.size + 1) (X := (w3.alloc (.cells #[.int .i64 (timesK k n s k' n' s'), .int .i64 (timesN k n s k' n' s'), .string ⟨#[]⟩] 25))) (by go_grown) (by go_size) hb
      clear hb
      obtain ⟨a0, a1, a2, la⟩ := carryX1 hk hz a0 a1 a2
      obtain ⟨b0, b1, b2, lb⟩ := carryX1 hk hz b0 b1 b2
      obtain ⟨s_0, s_1, s_2, ls_⟩ := carryX1 hk hz s_0 s_1 s_2
      obtain ⟨p_0, p_1, p_2, lp_⟩ := carryXN hk hz
      have HK4 : Hid (Below w.heap.size w w4) := chX HK3.out hk
      clear hk hz
      go_wp2_with fail
      refine (c_impl_Times k' n' s' k n s _ HS'.out HS.out).mono ?_
      rintro e w5 ⟨rfl, hb⟩
      obtain ⟨hk, hz⟩ := bframe (B := w4.heap.size + 1) (X := (w4.alloc (.cells #[.int .i64 (addK k' n' s' k n s), .int .i64 (addN k' n' s' k n s), .string ⟨#[]⟩] 25))) (by go_grown) (by go_size) hb
      clear hb
      obtain ⟨a0, a1, a2, la⟩ := carryX1 hk hz a0 a1 a2
      obtain ⟨b0, b1, b2, lb⟩ := carryX1 hk hz b0 b1 b2
      obtain ⟨s_0, s_1, s_2, ls_⟩ := carryX1 hk hz s_0 s_1 s_2
      obtain ⟨p_0, p_1, p_2, lp_⟩ := carryX1 hk hz p_0 p_1 p_2
      obtain ⟨t_0, t_1, t_2, lt_⟩ := carryXN hk hz
      have HK5 : Hid (Below w.heap.size w w5) := chX HK4.out hk
      clear hk hz
      go_wp2_with fail
      all_goals go_ret
      all_goals exact ⟨rfl, chX HK5.out (by go_grown)⟩
end Go.Proofs.Ytliipepekpdkfaa
