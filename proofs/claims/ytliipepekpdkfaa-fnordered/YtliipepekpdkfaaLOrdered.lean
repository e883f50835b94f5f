import Derived.Test.YtliipepekpdkfaaDrawF
import Derived.Test.YtliipepekpdkfaaOpenB
import Derived.Test.YtliipepekpdkfaaOrdM
import Derived.Deep.RegionHeld3
import Derived.Deep.DeepCutAuto
namespace Go.Proofs.Ytliipepekpdkfaa
open Go.RowKit

/-- What two drawn values and a third one can be to each other. -/
theorem ord_cases (k n : Int) (s : ByteArray) (k' n' : Int) (s' : ByteArray) :
    (k = k' ∧ n = n' ∧ s = s') ∨ ((ordV k n s k' n' s' = -1 ∧ ordV k' n' s' k n s = 1 ∨ ordV k n s k' n' s' = 1 ∧ ordV k' n' s' k n s = -1) ∧ (¬ k = k' ∨ k = k' ∧ ¬ n = n' ∨ k = k' ∧ n = n' ∧ ¬ s = s')) := by
  by_cases h : k = k' ∧ n = n' ∧ s = s'
  · exact Or.inl h
  right
  have hn := ordV_neg k n s k' n' s'
  have hb := ordV_bd k n s k' n' s'
  have h0 : ordV k n s k' n' s' ≠ 0 := fun e => h (ordV_zero e)
  refine ⟨by omega, ?_⟩
  by_cases h1 : k = k'
  · by_cases h2 : n = n'
    · exact Or.inr (Or.inr ⟨h1, h2, fun e => h ⟨h1, h2, e⟩⟩)
    · exact Or.inr (Or.inl ⟨h1, h2⟩)
  · exact Or.inl h1
theorem list_ne {a b : ByteArray} (h : ¬ a = b) : ¬ a.toList = b.toList := fun e => h (toList_inj e)

set_option maxHeartbeats 8000000 in
theorem law_FnOrdered (A : Option Addr) (len cap : Nat) (w : World) (hz : Co w A len) : Calls Try.prog 3 #[.slice A len cap] w fun e w' =>
    e = .returned (.bool true) ∧ Below w.heap.size w w' := by
  by_cases hbig : (1048576 : Int) < (len : Int)
  · go_enter Try.func3, Try.ntmps3
    go_wp2_with fail
    refine (laws_big A len cap _).mono ?_
    rintro e wq ⟨rfl, hw⟩
    subst wq
    go_wp2_with fail
    go_ret
    exact ⟨rfl, by go_grown⟩
  have HC : Hid (Cd w A len) := ⟨by omega, hz.2⟩
  clear hz
  go_enter Try.func3, Try.ntmps3
  go_wp2_with fail
  refine (laws_big A len cap _).mono ?_
  rintro e wq ⟨rfl, hw⟩
  subst wq
  go_wp2_with fail
  refine (draw_order A len cap _ (HC.out.below (by go_grown))).mono ?_
  rintro e w1 ⟨k, n, s, k', n', s', rfl, hs, hs', hk1⟩
  clear hs hs'
  have hs1 := hk1.size
  go_wp2_with fail
  refine (draw_value A len cap _ (HC.out.below (by go_grown))).mono ?_
  rintro e w2 ⟨k'', n'', s'', rfl, hs'', hb⟩
  clear hs''
  have HB : Hid (Below (w1.heap.size + 2) ((w1.alloc (.cells #[.int .i64 k, .int .i64 n, .string s] 25)).alloc (.cells #[.int .i64 k', .int .i64 n', .string s'] 25)) w2) := hb.mono (by go_size)
  have hz2 : w1.heap.size + 2 ≤ w2.heap.size := Nat.le_trans (by go_size) hb.size
  have HK : Hid (Below w.heap.size w (w2.alloc (.cells #[.int .i64 k'', .int .i64 n'', .string s''] 25))) := (Below.trans (by go_grown) (hb.mono (by go_size))).alloc (Nat.le_trans hk1.size (by omega)) _
  clear hb
  have q1 : w1.heap.size < w2.heap.size + 1 := by omega
  have q2 : w1.heap.size + 1 < w2.heap.size + 1 := by omega
  have q3 : w1.heap.size < w2.heap.size := by omega
  have q4 : w1.heap.size + 1 < w2.heap.size := by omega
  have q5 : ¬ w2.heap.size = w1.heap.size := by omega
  have q6 : ¬ w2.heap.size = w1.heap.size + 1 := by omega
  obtain ⟨a0, a1, a2, b0, b1, b2⟩ : w2.cell? ⟨w1.heap.size, 0, none⟩ = some (.int .i64 k) ∧ w2.cell? ⟨w1.heap.size, 1, none⟩ = some (.int .i64 n) ∧ w2.cell? ⟨w1.heap.size, 2, none⟩ = some (.string s) ∧
      w2.cell? ⟨w1.heap.size + 1, 0, none⟩ = some (.int .i64 k') ∧ w2.cell? ⟨w1.heap.size + 1, 1, none⟩ = some (.int .i64 n') ∧ w2.cell? ⟨w1.heap.size + 1, 2, none⟩ = some (.string s') := by
    refine ⟨?_, ?_, ?_, ?_, ?_, ?_⟩
    all_goals
      rw [HB.out.cell (p := ⟨_, _, none⟩) (by simp only; omega)]
      simp
  clear hk1 HB
  have HT : Hid (∀ _ : ordV k n s k' n' s' ≤ 0, ordV k' n' s' k'' n'' s'' ≤ 0 → ordV k n s k'' n'' s'' ≤ 0) := fun h h' => ordV_trans h h'
  go_wp2_with fail
  have HO := ord_cases k n s k' n' s'
  by_cases hp : ordV k' n' s' k'' n'' s'' ≤ 0
  · have hp' : ordV k n s k' n' s' ≤ 0 → ordV k n s k'' n'' s'' ≤ 0 := fun h => HT.out h hp
    clear HT
    rcases HO with ⟨rfl, rfl, rfl⟩ | ⟨⟨e1, e2⟩ | ⟨e1, e2⟩, h1 | ⟨rfl, h2⟩ | ⟨rfl, rfl, h3⟩⟩
    all_goals try rw [e1] at hp'
    · have e0 := ordV_self k n s
      clear hp'
      go_wp2_with (first
        | (go_at_call 18; refine (impl_Order _ _ _ _ _ _ _).mono ?_; rintro e w3 ⟨rfl, hb⟩; obtain ⟨hk, hz⟩ := bframe (B := w2.heap.size + 1) (X := (w2.alloc (.cells #[.int .i64 k'', .int .i64 n'', .string s''] 25))) (by go_grown) (by go_size) hb; have hC := fun b o h => hk.cell (p := ⟨b, o, none⟩) h; clear hb)
        | (go_at_call 19; refine (spec_Order _ _ _ _ _ _ _).mono ?_; rintro e w3 ⟨rfl, hb⟩; obtain ⟨hk, hz⟩ := bframe (B := w2.heap.size + 1) (X := (w2.alloc (.cells #[.int .i64 k'', .int .i64 n'', .string s''] 25))) (by go_grown) (by go_size) hb; have hC := fun b o h => hk.cell (p := ⟨b, o, none⟩) h; clear hb))
      all_goals go_ret
      all_goals exact ⟨rfl, HK.out.trans (Below.mono (by go_grown) (by omega))⟩
    · have hq := hp' (by omega)
      clear hp'
      go_wp2_with (first
        | (go_at_call 18; refine (impl_Order _ _ _ _ _ _ _).mono ?_; rintro e w3 ⟨rfl, hb⟩; obtain ⟨hk, hz⟩ := bframe (B := w2.heap.size + 1) (X := (w2.alloc (.cells #[.int .i64 k'', .int .i64 n'', .string s''] 25))) (by go_grown) (by go_size) hb; have hC := fun b o h => hk.cell (p := ⟨b, o, none⟩) h; clear hb)
        | (go_at_call 19; refine (spec_Order _ _ _ _ _ _ _).mono ?_; rintro e w3 ⟨rfl, hb⟩; obtain ⟨hk, hz⟩ := bframe (B := w2.heap.size + 1) (X := (w2.alloc (.cells #[.int .i64 k'', .int .i64 n'', .string s''] 25))) (by go_grown) (by go_size) hb; have hC := fun b o h => hk.cell (p := ⟨b, o, none⟩) h; clear hb))
      all_goals go_ret
      all_goals exact ⟨rfl, HK.out.trans (Below.mono (by go_grown) (by omega))⟩
    · have hq := hp' (by omega)
      clear hp'
      go_wp2_with (first
        | (go_at_call 18; refine (impl_Order _ _ _ _ _ _ _).mono ?_; rintro e w3 ⟨rfl, hb⟩; obtain ⟨hk, hz⟩ := bframe (B := w2.heap.size + 1) (X := (w2.alloc (.cells #[.int .i64 k'', .int .i64 n'', .string s''] 25))) (by go_grown) (by go_size) hb; have hC := fun b o h => hk.cell (p := ⟨b, o, none⟩) h; clear hb)
        | (go_at_call 19; refine (spec_Order _ _ _ _ _ _ _).mono ?_; rintro e w3 ⟨rfl, hb⟩; obtain ⟨hk, hz⟩ := bframe (B := w2.heap.size + 1) (X := (w2.alloc (.cells #[.int .i64 k'', .int .i64 n'', .string s''] 25))) (by go_grown) (by go_size) hb; have hC := fun b o h => hk.cell (p := ⟨b, o, none⟩) h; clear hb))
      all_goals go_ret
      all_goals exact ⟨rfl, HK.out.trans (Below.mono (by go_grown) (by omega))⟩
    · have hq := hp' (by omega)
      have h4 := list_ne h3
      clear hp' h3
      go_wp2_with (first
        | (go_at_call 18; refine (impl_Order _ _ _ _ _ _ _).mono ?_; rintro e w3 ⟨rfl, hb⟩; obtain ⟨hk, hz⟩ := bframe (B := w2.heap.size + 1) (X := (w2.alloc (.cells #[.int .i64 k'', .int .i64 n'', .string s''] 25))) (by go_grown) (by go_size) hb; have hC := fun b o h => hk.cell (p := ⟨b, o, none⟩) h; clear hb)
        | (go_at_call 19; refine (spec_Order _ _ _ _ _ _ _).mono ?_; rintro e w3 ⟨rfl, hb⟩; obtain ⟨hk, hz⟩ := bframe (B := w2.heap.size + 1) (X := (w2.alloc (.cells #[.int .i64 k'', .int .i64 n'', .string s''] 25))) (by go_grown) (by go_size) hb; have hC := fun b o h => hk.cell (p := ⟨b, o, none⟩) h; clear hb))
      all_goals go_ret
      all_goals exact ⟨rfl, HK.out.trans (Below.mono (by go_grown) (by omega))⟩
    · clear hp'
      go_wp2_with (first
        | (go_at_call 18; refine (impl_Order _ _ _ _ _ _ _).mono ?_; rintro e w3 ⟨rfl, hb⟩; obtain ⟨hk, hz⟩ := bframe (B := w2.heap.size + 1) (X := (w2.alloc (.cells #[.int .i64 k'', .int .i64 n'', .string s''] 25))) (by go_grown) (by go_size) hb; have hC := fun b o h => hk.cell (p := ⟨b, o, none⟩) h; clear hb)
        | (go_at_call 19; refine (spec_Order _ _ _ _ _ _ _).mono ?_; rintro e w3 ⟨rfl, hb⟩; obtain ⟨hk, hz⟩ := bframe (B := w2.heap.size + 1) (X := (w2.alloc (.cells #[.int .i64 k'', .int .i64 n'', .string s''] 25))) (by go_grown) (by go_size) hb; have hC := fun b o h => hk.cell (p := ⟨b, o, none⟩) h; clear hb))
      all_goals go_ret
      all_goals exact ⟨rfl, HK.out.trans (Below.mono (by go_grown) (by omega))⟩
    · clear hp'
      go_wp2_with (first
        | (go_at_call 18; refine (impl_Order _ _ _ _ _ _ _).mono ?_; rintro e w3 ⟨rfl, hb⟩; obtain ⟨hk, hz⟩ := bframe (B := w2.heap.size + 1) (X := (w2.alloc (.cells #[.int .i64 k'', .int .i64 n'', .string s''] 25))) (by go_grown) (by go_size) hb; have hC := fun b o h => hk.cell (p := ⟨b, o, none⟩) h; clear hb)
        | (go_at_call 19; refine (spec_Order _ _ _ _ _ _ _).mono ?_; rintro e w3 ⟨rfl, hb⟩; obtain ⟨hk, hz⟩ := bframe (B := w2.heap.size + 1) (X := (w2.alloc (.cells #[.int .i64 k'', .int .i64 n'', .string s''] 25))) (by go_grown) (by go_size) hb; have hC := fun b o h => hk.cell (p := ⟨b, o, none⟩) h; clear hb))
      all_goals go_ret
      all_goals exact ⟨rfl, HK.out.trans (Below.mono (by go_grown) (by omega))⟩
    · have h4 := list_ne h3
      clear hp' h3
      go_wp2_with (first
        | (go_at_call 18; refine (impl_Order _ _ _ _ _ _ _).mono ?_; rintro e w3 ⟨rfl, hb⟩; obtain ⟨hk, hz⟩ := bframe (B := w2.heap.size + 1) (X := (w2.alloc (.cells #[.int .i64 k'', .int .i64 n'', .string s''] 25))) (by go_grown) (by go_size) hb; have hC := fun b o h => hk.cell (p := ⟨b, o, none⟩) h; clear hb)
        | (go_at_call 19; refine (spec_Order _ _ _ _ _ _ _).mono ?_; rintro e w3 ⟨rfl, hb⟩; obtain ⟨hk, hz⟩ := bframe (B := w2.heap.size + 1) (X := (w2.alloc (.cells #[.int .i64 k'', .int .i64 n'', .string s''] 25))) (by go_grown) (by go_size) hb; have hC := fun b o h => hk.cell (p := ⟨b, o, none⟩) h; clear hb))
      all_goals go_ret
      all_goals exact ⟨rfl, HK.out.trans (Below.mono (by go_grown) (by omega))⟩
  · clear HT
    rcases HO with ⟨rfl, rfl, rfl⟩ | ⟨⟨e1, e2⟩ | ⟨e1, e2⟩, h1 | ⟨rfl, h2⟩ | ⟨rfl, rfl, h3⟩⟩
    · have e0 := ordV_self k n s
      go_wp2_with (first
        | (go_at_call 18; refine (impl_Order _ _ _ _ _ _ _).mono ?_; rintro e w3 ⟨rfl, hb⟩; obtain ⟨hk, hz⟩ := bframe (B := w2.heap.size + 1) (X := (w2.alloc (.cells #[.int .i64 k'', .int .i64 n'', .string s''] 25))) (by go_grown) (by go_size) hb; have hC := fun b o h => hk.cell (p := ⟨b, o, none⟩) h; clear hb)
        | (go_at_call 19; refine (spec_Order _ _ _ _ _ _ _).mono ?_; rintro e w3 ⟨rfl, hb⟩; obtain ⟨hk, hz⟩ := bframe (B := w2.heap.size + 1) (X := (w2.alloc (.cells #[.int .i64 k'', .int .i64 n'', .string s''] 25))) (by go_grown) (by go_size) hb; have hC := fun b o h => hk.cell (p := ⟨b, o, none⟩) h; clear hb))
      all_goals go_ret
      all_goals exact ⟨rfl, HK.out.trans (Below.mono (by go_grown) (by omega))⟩
    · skip
      go_wp2_with (first
        | (go_at_call 18; refine (impl_Order _ _ _ _ _ _ _).mono ?_; rintro e w3 ⟨rfl, hb⟩; obtain ⟨hk, hz⟩ := bframe (B := w2.heap.size + 1) (X := (w2.alloc (.cells #[.int .i64 k'', .int .i64 n'', .string s''] 25))) (by go_grown) (by go_size) hb; have hC := fun b o h => hk.cell (p := ⟨b, o, none⟩) h; clear hb)
        | (go_at_call 19; refine (spec_Order _ _ _ _ _ _ _).mono ?_; rintro e w3 ⟨rfl, hb⟩; obtain ⟨hk, hz⟩ := bframe (B := w2.heap.size + 1) (X := (w2.alloc (.cells #[.int .i64 k'', .int .i64 n'', .string s''] 25))) (by go_grown) (by go_size) hb; have hC := fun b o h => hk.cell (p := ⟨b, o, none⟩) h; clear hb))
      all_goals go_ret
      all_goals exact ⟨rfl, HK.out.trans (Below.mono (by go_grown) (by omega))⟩
    · skip
      go_wp2_with (first
        | (go_at_call 18; refine (impl_Order _ _ _ _ _ _ _).mono ?_; rintro e w3 ⟨rfl, hb⟩; obtain ⟨hk, hz⟩ := bframe (B := w2.heap.size + 1) (X := (w2.alloc (.cells #[.int .i64 k'', .int .i64 n'', .string s''] 25))) (by go_grown) (by go_size) hb; have hC := fun b o h => hk.cell (p := ⟨b, o, none⟩) h; clear hb)
        | (go_at_call 19; refine (spec_Order _ _ _ _ _ _ _).mono ?_; rintro e w3 ⟨rfl, hb⟩; obtain ⟨hk, hz⟩ := bframe (B := w2.heap.size + 1) (X := (w2.alloc (.cells #[.int .i64 k'', .int .i64 n'', .string s''] 25))) (by go_grown) (by go_size) hb; have hC := fun b o h => hk.cell (p := ⟨b, o, none⟩) h; clear hb))
      all_goals go_ret
      all_goals exact ⟨rfl, HK.out.trans (Below.mono (by go_grown) (by omega))⟩
    · have h4 := list_ne h3
      clear h3
      go_wp2_with (first
        | (go_at_call 18; refine (impl_Order _ _ _ _ _ _ _).mono ?_; rintro e w3 ⟨rfl, hb⟩; obtain ⟨hk, hz⟩ := bframe (B := w2.heap.size + 1) (X := (w2.alloc (.cells #[.int .i64 k'', .int .i64 n'', .string s''] 25))) (by go_grown) (by go_size) hb; have hC := fun b o h => hk.cell (p := ⟨b, o, none⟩) h; clear hb)
        | (go_at_call 19; refine (spec_Order _ _ _ _ _ _ _).mono ?_; rintro e w3 ⟨rfl, hb⟩; obtain ⟨hk, hz⟩ := bframe (B := w2.heap.size + 1) (X := (w2.alloc (.cells #[.int .i64 k'', .int .i64 n'', .string s''] 25))) (by go_grown) (by go_size) hb; have hC := fun b o h => hk.cell (p := ⟨b, o, none⟩) h; clear hb))
      all_goals go_ret
      all_goals exact ⟨rfl, HK.out.trans (Below.mono (by go_grown) (by omega))⟩
    · skip
      go_wp2_with (first
        | (go_at_call 18; refine (impl_Order _ _ _ _ _ _ _).mono ?_; rintro e w3 ⟨rfl, hb⟩; obtain ⟨hk, hz⟩ := bframe (B := w2.heap.size + 1) (X := (w2.alloc (.cells #[.int .i64 k'', .int .i64 n'', .string s''] 25))) (by go_grown) (by go_size) hb; have hC := fun b o h => hk.cell (p := ⟨b, o, none⟩) h; clear hb)
        | (go_at_call 19; refine (spec_Order _ _ _ _ _ _ _).mono ?_; rintro e w3 ⟨rfl, hb⟩; obtain ⟨hk, hz⟩ := bframe (B := w2.heap.size + 1) (X := (w2.alloc (.cells #[.int .i64 k'', .int .i64 n'', .string s''] 25))) (by go_grown) (by go_size) hb; have hC := fun b o h => hk.cell (p := ⟨b, o, none⟩) h; clear hb))
      all_goals go_ret
      all_goals exact ⟨rfl, HK.out.trans (Below.mono (by go_grown) (by omega))⟩
    · skip
      go_wp2_with (first
        | (go_at_call 18; refine (impl_Order _ _ _ _ _ _ _).mono ?_; rintro e w3 ⟨rfl, hb⟩; obtain ⟨hk, hz⟩ := bframe (B := w2.heap.size + 1) (X := (w2.alloc (.cells #[.int .i64 k'', .int .i64 n'', .string s''] 25))) (by go_grown) (by go_size) hb; have hC := fun b o h => hk.cell (p := ⟨b, o, none⟩) h; clear hb)
        | (go_at_call 19; refine (spec_Order _ _ _ _ _ _ _).mono ?_; rintro e w3 ⟨rfl, hb⟩; obtain ⟨hk, hz⟩ := bframe (B := w2.heap.size + 1) (X := (w2.alloc (.cells #[.int .i64 k'', .int .i64 n'', .string s''] 25))) (by go_grown) (by go_size) hb; have hC := fun b o h => hk.cell (p := ⟨b, o, none⟩) h; clear hb))
      all_goals go_ret
      all_goals exact ⟨rfl, HK.out.trans (Below.mono (by go_grown) (by omega))⟩
    · have h4 := list_ne h3
      clear h3
      go_wp2_with (first
        | (go_at_call 18; refine (impl_Order _ _ _ _ _ _ _).mono ?_; rintro e w3 ⟨rfl, hb⟩; obtain ⟨hk, hz⟩ := bframe (B := w2.heap.size + 1) (X := (w2.alloc (.cells #[.int .i64 k'', .int .i64 n'', .string s''] 25))) (by go_grown) (by go_size) hb; have hC := fun b o h => hk.cell (p := ⟨b, o, none⟩) h; clear hb)
        | (go_at_call 19; refine (spec_Order _ _ _ _ _ _ _).mono ?_; rintro e w3 ⟨rfl, hb⟩; obtain ⟨hk, hz⟩ := bframe (B := w2.heap.size + 1) (X := (w2.alloc (.cells #[.int .i64 k'', .int .i64 n'', .string s''] 25))) (by go_grown) (by go_size) hb; have hC := fun b o h => hk.cell (p := ⟨b, o, none⟩) h; clear hb))
      all_goals go_ret
      all_goals exact ⟨rfl, HK.out.trans (Below.mono (by go_grown) (by omega))⟩
end Go.Proofs.Ytliipepekpdkfaa
