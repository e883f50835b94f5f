import Derived.Test.YtidmajdiidfceaaDoorVtD
import Derived.Test.YtidmajdiidfceaaDoorOpenB
namespace Go.Proofs.YtidmajdiidfceaaDoor
open Go.RowKit
set_option linter.unusedSimpArgs false
set_option linter.unusedVariables false

def C3 (W : World) (b : Nat) (v0 v1 v2 : Value) : Prop := b < W.heap.size ∧ W.cell? ⟨b, 0, none⟩ = some v0 ∧ W.cell? ⟨b, 1, none⟩ = some v1 ∧ W.cell? ⟨b, 2, none⟩ = some v2
theorem C3.below {W w1 : World} {b : Nat} {v0 v1 v2 : Value} (h : C3 W b v0 v1 v2) (hb : Below W.heap.size W w1) : C3 w1 b v0 v1 v2 := by
  obtain ⟨hl, c0, c1, c2⟩ := h
  exact ⟨Nat.lt_of_lt_of_le hl hb.size, (hb.cell (p := ⟨b, 0, none⟩) hl).trans c0, (hb.cell (p := ⟨b, 1, none⟩) hl).trans c1, (hb.cell (p := ⟨b, 2, none⟩) hl).trans c2⟩
theorem C3.new (W : World) (v0 v1 v2 : Value) (t : TypeId) : C3 (W.alloc (.cells #[v0, v1, v2] t)) W.heap.size v0 v1 v2 := by
  refine ⟨by simp, ?_, ?_, ?_⟩ <;> simp
theorem back_yes {k n : Int} {s : ByteArray} (h : okV k n s = true) : rvT (guess (txV k n s)) = .tuple #[.agg #[.int .i64 k, .int .i64 n, .string s], .bool true] := by
  have h2 := guess_okV (txV k n s)
  rw [guess_back h] at h2 ⊢
  unfold rvT
  rw [h2, h]
  rfl
theorem back_no {k n : Int} {s : ByteArray} (h : okV k n s = false) : rvT (guess (txV k n s)) = .tuple #[.agg #[.int .i64 0, .int .i64 0, .string ⟨#[]⟩], .bool true] := by
  rw [show txV k n s = ⟨#[]⟩ by unfold txV; rw [h]; rfl, show guess ⟨#[]⟩ = (0, 0, ⟨#[]⟩) by unfold guess; rw [dif_neg (by decide)]]
  rfl
theorem rvT_parts (u : ByteArray) : ∃ (P Q : Int) (t : ByteArray) (K : Bool), rvT (guess u) = .tuple #[.agg #[.int .i64 P, .int .i64 Q, .string t], .bool K] ∧ t.size ≤ u.size ∧ (K = true → okV P Q t = true ∧ txV P Q t = u) := by
  cases ho : gOk (guess u)
  · exact ⟨0, 0, ⟨#[]⟩, false, by unfold rvT; rw [ho]; rfl, Nat.zero_le _, fun h => by cases h⟩
  · refine ⟨(guess u).1, (guess u).2.1, (guess u).2.2, true, by unfold rvT; rw [ho]; rfl, ?_, fun _ => ?_⟩
    · rcases guess_kinds u with h | ⟨n, h⟩ | ⟨s2, h2, h⟩ | ⟨n, h⟩ | ⟨n, h⟩ | h
      · rw [h]; exact Nat.zero_le _
      · rw [h]; exact Nat.zero_le _
      · rw [h]; exact h2
      · rw [h]; exact Nat.zero_le _
      · rw [h]; exact Nat.zero_le _
      · rw [h]; exact Nat.zero_le _
    · have h1 := guess_okV u
      rw [ho] at h1
      refine ⟨h1.symm, ?_⟩
      unfold txV
      rw [← h1, if_pos rfl]
      exact guess_text u ho

set_option maxRecDepth 100000 in
set_option maxHeartbeats 8000000 in
theorem law_FnValueTexts (A : Option Addr) (len cap : Nat) (w : World) (hz : len ≤ 1048576 → Cd w A len) (hv : Vars w) : Calls Tryd.prog 4 #[.slice A len cap] w fun e w' =>
    e = .returned (.bool true) ∧ Below w.heap.size w w' := by
  have HV : Hid (Vars w) := hv
  clear hv
  by_cases hbig : (1048576 : Int) < (len : Int)
  · go_enter Tryd.func4, Tryd.ntmps4
    go_wp2_with fail
    refine (laws_big A len cap _).mono ?_
    rintro e wq ⟨rfl, hw⟩
    subst wq
    go_wp2_with fail
    go_ret
    exact ⟨rfl, by go_grown⟩
  have HC : Hid (Cd w A len) := hz (by omega)
  clear hz
  go_enter Tryd.func4, Tryd.ntmps4
  go_wp2_with fail
  refine (laws_big A len cap _).mono ?_
  rintro e wq ⟨rfl, hw⟩
  subst wq
  go_wp2_with fail
  refine (draw_value A len cap _ HC.out).mono ?_
  rintro e u1 ⟨k, n, s, rfl, hs, hb⟩
  have K1 : Hid (Below w.heap.size w u1) := hb
  have HS : Hid (s.size ≤ maxLen) := hs
  have C1 : Hid (C3 (u1.alloc (.cells #[.int .i64 k, .int .i64 n, .string s] 38)) u1.heap.size (.int .i64 k) (.int .i64 n) (.string s)) := C3.new _ _ _ _ _
  clear hb hs
  go_wp2_with fail
  refine (impl_ValueText k n s _ (HV.out.below (bchain K1.out (by go_grown))) HS.out).mono ?_
  rintro e u2 ⟨rfl, hb⟩
  have K2 : Hid (Below w.heap.size w u2) := bchain (bchain K1.out (by go_grown)) hb
  have C2 : Hid (C3 u2 u1.heap.size (.int .i64 k) (.int .i64 n) (.string s)) := C1.out.below hb
  have HTZ : Hid ((txV k n s).size ≤ 250) := txV_size k n s
  obtain ⟨T, HT⟩ : ∃ T, Hid (txV k n s = T) := ⟨_, rfl⟩
  rw [HT.out] at HTZ ⊢
  clear hb C1
  cases hO : okV k n s
  · have HRB : Hid (rvT (guess T) = .tuple #[.agg #[.int .i64 0, .int .i64 0, .string ⟨#[]⟩], .bool true]) := by
      show _ = _
      rw [← HT.out]
      exact back_no hO
    have HO : Hid (okV k n s = false) := hO
    clear hO
    go_wp2_with fail
    refine (impl_ReadValue T _ (by have := HTZ.out; omega) (HV.out.below K2.out)).mono ?_
    rintro e u3 ⟨rfl, hb⟩
    rw [HRB.out]
    have K3 : Hid (Below w.heap.size w u3) := bchain K2.out hb
    have CP : Hid (C3 (u3.alloc (.cells #[.int .i64 0, .int .i64 0, .string ⟨#[]⟩] 38)) u1.heap.size (.int .i64 k) (.int .i64 n) (.string s)) := (C2.out.below hb).below (by go_grown)
    have CQ : Hid (C3 (u3.alloc (.cells #[.int .i64 0, .int .i64 0, .string ⟨#[]⟩] 38)) u3.heap.size (.int .i64 0) (.int .i64 0) (.string ⟨#[]⟩)) := C3.new _ _ _ _ _
    have KX : Hid (Below w.heap.size w (u3.alloc (.cells #[.int .i64 0, .int .i64 0, .string ⟨#[]⟩] 38))) := bchain K3.out (by go_grown)
    clear hb C2 HRB
    go_wp2_with fail
    generalize hX : u3.alloc (.cells #[.int .i64 0, .int .i64 0, .string ⟨#[]⟩] 38) = X at CP CQ KX ⊢
    clear hX
    obtain ⟨lp, p0, p1, p2⟩ := CP.out
    obtain ⟨lq, q0, q1, q2⟩ := CQ.out
    clear CP CQ
    refine wp_region_held_drew (S := (fun w' => (∀ bq oq, bq < X.heap.size → w'.cell? ⟨bq, oq, none⟩ = X.cell? ⟨bq, oq, none⟩) ∧ X.heap.size ≤ w'.heap.size ∧ Below X.heap.size X w')) (by kernel_rfl) (sc_of (by go_size) (by go_grown)) (fun hHeld => ?_)
    refine wpAnyH_take (i := 0) (v := ?_) rfl (by kernel_rfl) (by kernel_rfl) (by kernel_rfl) (fun _ _ _ h => h) (Or.inl ⟨by rfl, ?_⟩) (by assumption) ?_
    rotate_left
    · (intro wq hSw; (try dsimp only at hSw); go_simp <;> with_reducible rfl)
    try simp only [Act.put, List.getElem_toArray, List.getElem_cons_zero, List.getElem_cons_succ, List.setIfInBounds_toArray, List.set_cons_zero, List.set_cons_succ]
    refine wpAnyH_take (i := 1) (v := ?_) rfl (by kernel_rfl) (by kernel_rfl) (by kernel_rfl) (fun _ _ _ h => h) (Or.inl ⟨by rfl, ?_⟩) (by assumption) ?_
    rotate_left
    · (intro wq hSw; (try dsimp only at hSw); go_simp <;> with_reducible rfl)
    try simp only [Act.put, List.getElem_toArray, List.getElem_cons_zero, List.getElem_cons_succ, List.setIfInBounds_toArray, List.set_cons_zero, List.set_cons_succ]
    refine wpAnyH_ready (rs := [2]) (by kernel_rfl) (by simp) (AllReadyH.cons rfl (fun Kq hKq => ?_) AllReadyH.nil)
    go_simp
    (refine (spec_ValueText k n s _ HS.out).mono ?_; rintro e y1 ⟨rfl, hb⟩; rw [HT.out]; obtain ⟨hk1, hz1⟩ := bframe (B := X.heap.size) (X := X) (by go_grown) (by go_size) hb; have hC := fun b o h => hk1.cell (p := ⟨b, o, none⟩) h; clear hb)
    refine hKq.out _ _ ?_ (fun hHeld => ?_)
    · exact sc_of (by go_size) (by go_grown)
    clear hKq Kq
    try simp only [Act.put, List.getElem_toArray, List.getElem_cons_zero, List.getElem_cons_succ, List.setIfInBounds_toArray, List.set_cons_zero, List.set_cons_succ]
    refine wpAnyH_take (i := 3) (v := ?_) rfl (by kernel_rfl) (by kernel_rfl) (by kernel_rfl) (fun _ _ _ h => h) (Or.inl ⟨by rfl, ?_⟩) (by assumption) ?_
    rotate_left
    · (intro wq hSw; (try dsimp only at hSw); go_simp <;> with_reducible rfl)
    try simp only [Act.put, List.getElem_toArray, List.getElem_cons_zero, List.getElem_cons_succ, List.setIfInBounds_toArray, List.set_cons_zero, List.set_cons_succ]
    refine wpAnyH_take (i := 4) (v := ?_) rfl (by kernel_rfl) (by kernel_rfl) (by kernel_rfl) (fun _ _ _ h => h) (Or.inl ⟨by rfl, ?_⟩) (by assumption) ?_
    rotate_left
    · (intro wq hSw; (try dsimp only at hSw); go_simp <;> with_reducible rfl)
    try simp only [Act.put, List.getElem_toArray, List.getElem_cons_zero, List.getElem_cons_succ, List.setIfInBounds_toArray, List.set_cons_zero, List.set_cons_succ]
    refine wpAnyH_take (i := 5) (v := ?_) rfl (by kernel_rfl) (by kernel_rfl) (by kernel_rfl) (fun _ _ _ h => h) (Or.inl ⟨by rfl, ?_⟩) (by assumption) ?_
    rotate_left
    · (intro wq hSw; (try dsimp only at hSw); go_simp <;> with_reducible rfl)
    try simp only [Act.put, List.getElem_toArray, List.getElem_cons_zero, List.getElem_cons_succ, List.setIfInBounds_toArray, List.set_cons_zero, List.set_cons_succ]
    refine wpAnyH_take (i := 7) (v := ?_) rfl (by kernel_rfl) (by kernel_rfl) (by kernel_rfl) (fun _ _ _ h => h) (Or.inl ⟨by rfl, ?_⟩) (by assumption) ?_
    rotate_left
    · (intro wq hSw; (try dsimp only at hSw); go_simp <;> with_reducible rfl)
    try simp only [Act.put, List.getElem_toArray, List.getElem_cons_zero, List.getElem_cons_succ, List.setIfInBounds_toArray, List.set_cons_zero, List.set_cons_succ]
    refine wpAnyH_ready (rs := [6]) (by kernel_rfl) (by simp) (AllReadyH.cons rfl (fun Kq hKq => ?_) AllReadyH.nil)
    go_simp
    (refine (impl_ValueOk k n s _ HS.out).mono ?_; rintro e y1 ⟨rfl, hb⟩; rw [HO.out]; obtain ⟨hk1, hz1⟩ := bframe (B := X.heap.size) (X := X) (by go_grown) (by go_size) hb; have hC := fun b o h => hk1.cell (p := ⟨b, o, none⟩) h; clear hb)
    refine hKq.out _ _ ?_ (fun hHeld => ?_)
    · exact sc_of (by go_size) (by go_grown)
    clear hKq Kq
    try simp only [Act.put, List.getElem_toArray, List.getElem_cons_zero, List.getElem_cons_succ, List.setIfInBounds_toArray, List.set_cons_zero, List.set_cons_succ]
    refine wpAnyH_ready (rs := [8]) (by kernel_rfl) (by simp) (AllReadyH.cons rfl (fun Kq hKq => ?_) AllReadyH.nil)
    go_simp
    (refine (spec_ValueOk k n s _ HS.out).mono ?_; rintro e y1 ⟨rfl, hb⟩; rw [HO.out]; obtain ⟨hk1, hz1⟩ := bframe (B := X.heap.size) (X := X) (by go_grown) (by go_size) hb; have hC := fun b o h => hk1.cell (p := ⟨b, o, none⟩) h; clear hb)
    refine hKq.out _ _ ?_ (fun hHeld => ?_)
    · exact sc_of (by go_size) (by go_grown)
    clear hKq Kq
    try simp only [Act.put, List.getElem_toArray, List.getElem_cons_zero, List.getElem_cons_succ, List.setIfInBounds_toArray, List.set_cons_zero, List.set_cons_succ]
    refine wpAnyH_take (i := 9) (v := ?_) rfl (by kernel_rfl) (by kernel_rfl) (by kernel_rfl) (fun _ _ _ h => h) (Or.inl ⟨by rfl, ?_⟩) (by assumption) ?_
    rotate_left
    · (intro wq hSw; (try dsimp only at hSw); go_simp <;> with_reducible rfl)
    try simp only [Act.put, List.getElem_toArray, List.getElem_cons_zero, List.getElem_cons_succ, List.setIfInBounds_toArray, List.set_cons_zero, List.set_cons_succ]
    refine wpAnyH_take (i := 10) (v := ?_) rfl (by kernel_rfl) (by kernel_rfl) (by kernel_rfl) (fun _ _ _ h => h) (Or.inl ⟨by rfl, ?_⟩) (by assumption) ?_
    rotate_left
    · (intro wq hSw; (try dsimp only at hSw); go_simp <;> with_reducible rfl)
    try simp only [Act.put, List.getElem_toArray, List.getElem_cons_zero, List.getElem_cons_succ, List.setIfInBounds_toArray, List.set_cons_zero, List.set_cons_succ]
    refine wpAnyH_take (i := 11) (v := ?_) rfl (by kernel_rfl) (by kernel_rfl) (by kernel_rfl) (fun _ _ _ h => h) (Or.inl ⟨by rfl, ?_⟩) (by assumption) ?_
    rotate_left
    · (intro wq hSw; (try dsimp only at hSw); go_simp <;> with_reducible rfl)
    try simp only [Act.put, List.getElem_toArray, List.getElem_cons_zero, List.getElem_cons_succ, List.setIfInBounds_toArray, List.set_cons_zero, List.set_cons_succ]
    refine wpAnyH_take (i := 12) (v := ?_) rfl (by kernel_rfl) (by kernel_rfl) (by kernel_rfl) (fun _ _ _ h => h) (Or.inl ⟨by rfl, ?_⟩) (by assumption) ?_
    rotate_left
    · (intro wq hSw; (try dsimp only at hSw); go_simp <;> with_reducible rfl)
    try simp only [Act.put, List.getElem_toArray, List.getElem_cons_zero, List.getElem_cons_succ, List.setIfInBounds_toArray, List.set_cons_zero, List.set_cons_succ]
    refine wpAnyH_ready (rs := [13]) (by kernel_rfl) (by simp) (AllReadyH.cons rfl (fun Kq hKq => ?_) AllReadyH.nil)
    go_simp
    (refine (impl_ValueOk k n s _ HS.out).mono ?_; rintro e y1 ⟨rfl, hb⟩; rw [HO.out]; obtain ⟨hk1, hz1⟩ := bframe (B := X.heap.size) (X := X) (by go_grown) (by go_size) hb; have hC := fun b o h => hk1.cell (p := ⟨b, o, none⟩) h; clear hb)
    refine hKq.out _ _ ?_ (fun hHeld => ?_)
    · exact sc_of (by go_size) (by go_grown)
    clear hKq Kq
    try simp only [Act.put, List.getElem_toArray, List.getElem_cons_zero, List.getElem_cons_succ, List.setIfInBounds_toArray, List.set_cons_zero, List.set_cons_succ]
    refine wpAnyH_take (i := 14) (v := ?_) rfl (by kernel_rfl) (by kernel_rfl) (by kernel_rfl) (fun _ _ _ h => h) (Or.inl ⟨by rfl, ?_⟩) (by assumption) ?_
    rotate_left
    · (intro wq hSw; (try dsimp only at hSw); go_simp <;> with_reducible rfl)
    try simp only [Act.put, List.getElem_toArray, List.getElem_cons_zero, List.getElem_cons_succ, List.setIfInBounds_toArray, List.set_cons_zero, List.set_cons_succ]
    refine wpAnyH_take (i := 15) (v := undef) rfl (by kernel_rfl) (by kernel_rfl) (by kernel_rfl) (fun _ _ _ h => h) (Or.inr ⟨by rfl, rfl⟩) (by assumption) ?_
    try simp only [Act.put, List.getElem_toArray, List.getElem_cons_zero, List.getElem_cons_succ, List.setIfInBounds_toArray, List.set_cons_zero, List.set_cons_succ]
    refine wpAnyH_take (i := 16) (v := undef) rfl (by kernel_rfl) (by kernel_rfl) (by kernel_rfl) (fun _ _ _ h => h) (Or.inr ⟨by rfl, rfl⟩) (by assumption) ?_
    try simp only [Act.put, List.getElem_toArray, List.getElem_cons_zero, List.getElem_cons_succ, List.setIfInBounds_toArray, List.set_cons_zero, List.set_cons_succ]
    refine wpAnyH_take (i := 17) (v := undef) rfl (by kernel_rfl) (by kernel_rfl) (by kernel_rfl) (fun _ _ _ h => h) (Or.inr ⟨by rfl, rfl⟩) (by assumption) ?_
    try simp only [Act.put, List.getElem_toArray, List.getElem_cons_zero, List.getElem_cons_succ, List.setIfInBounds_toArray, List.set_cons_zero, List.set_cons_succ]
    refine wpAnyH_take (i := 18) (v := undef) rfl (by kernel_rfl) (by kernel_rfl) (by kernel_rfl) (fun _ _ _ h => h) (Or.inr ⟨by rfl, rfl⟩) (by assumption) ?_
    try simp only [Act.put, List.getElem_toArray, List.getElem_cons_zero, List.getElem_cons_succ, List.setIfInBounds_toArray, List.set_cons_zero, List.set_cons_succ]
    refine wpAnyH_take (i := 19) (v := undef) rfl (by kernel_rfl) (by kernel_rfl) (by kernel_rfl) (fun _ _ _ h => h) (Or.inr ⟨by rfl, rfl⟩) (by assumption) ?_
    try simp only [Act.put, List.getElem_toArray, List.getElem_cons_zero, List.getElem_cons_succ, List.setIfInBounds_toArray, List.set_cons_zero, List.set_cons_succ]
    refine wpAnyH_take (i := 20) (v := undef) rfl (by kernel_rfl) (by kernel_rfl) (by kernel_rfl) (fun _ _ _ h => h) (Or.inr ⟨by rfl, rfl⟩) (by assumption) ?_
    try simp only [Act.put, List.getElem_toArray, List.getElem_cons_zero, List.getElem_cons_succ, List.setIfInBounds_toArray, List.set_cons_zero, List.set_cons_succ]
    refine wpAnyH_take (i := 21) (v := undef) rfl (by kernel_rfl) (by kernel_rfl) (by kernel_rfl) (fun _ _ _ h => h) (Or.inr ⟨by rfl, rfl⟩) (by assumption) ?_
    try simp only [Act.put, List.getElem_toArray, List.getElem_cons_zero, List.getElem_cons_succ, List.setIfInBounds_toArray, List.set_cons_zero, List.set_cons_succ]
    refine wpAnyH_take (i := 22) (v := ?_) rfl (by kernel_rfl) (by kernel_rfl) (by kernel_rfl) (fun _ _ _ h => h) (Or.inl ⟨by rfl, ?_⟩) (by assumption) ?_
    rotate_left
    · (intro wq hSw; (try dsimp only at hSw); go_simp <;> with_reducible rfl)
    try simp only [Act.put, List.getElem_toArray, List.getElem_cons_zero, List.getElem_cons_succ, List.setIfInBounds_toArray, List.set_cons_zero, List.set_cons_succ]
    refine wpAnyH_take (i := 23) (v := ?_) rfl (by kernel_rfl) (by kernel_rfl) (by kernel_rfl) (fun _ _ _ h => h) (Or.inl ⟨by rfl, ?_⟩) (by assumption) ?_
    rotate_left
    · (intro wq hSw; (try dsimp only at hSw); go_simp <;> with_reducible rfl)
    try simp only [Act.put, List.getElem_toArray, List.getElem_cons_zero, List.getElem_cons_succ, List.setIfInBounds_toArray, List.set_cons_zero, List.set_cons_succ]
    refine wpAnyH_done (by kernel_rfl) ?_ _
    go_wp2_with fail
    have K4 : Hid (Below w.heap.size w y1) := bchain KX.out (by go_grown)
    refine (draw_readValue A len cap _ (HC.out.below K4.out)).mono ?_
    rintro e z1 ⟨u, rfl, hus, hb⟩
    have L1 : Hid (Below w.heap.size w z1) := bchain K4.out hb
    have HUS : Hid (u.size ≤ 300) := hus
    clear hb hus
    obtain ⟨P, Q, t, K, hpl, ht, hbk⟩ := rvT_parts u
    have HP : Hid (rvT (guess u) = .tuple #[.agg #[.int .i64 P, .int .i64 Q, .string t], .bool K]) := hpl
    have HQ9 : Hid (rvS u = .tuple #[.agg #[.int .i64 P, .int .i64 Q, .string t], .bool K]) := (rv_same u).symm.trans hpl
    have HBK : Hid (K = true → okV P Q t = true ∧ txV P Q t = u) := hbk
    have HTS : Hid (t.size ≤ maxLen) := by have := HUS.out; exact Nat.le_trans ht (by unfold maxLen; omega)
    clear hpl hbk ht
    go_wp2_with fail
    refine (impl_ReadValue u _ (by have := HUS.out; omega) (HV.out.below L1.out)).mono ?_
    rintro e z2 ⟨rfl, hb⟩
    rw [HP.out]
    have L2 : Hid (Below w.heap.size w z2) := bchain L1.out hb
    have D2 : Hid (C3 (z2.alloc (.cells #[.int .i64 P, .int .i64 Q, .string t] 38)) z2.heap.size (.int .i64 P) (.int .i64 Q) (.string t)) := C3.new _ _ _ _ _
    clear hb
    go_wp2_with fail
    refine (spec_ReadValue u _ (by have := HUS.out; omega)).mono ?_
    rintro e z3 ⟨rfl, hb⟩
    rw [HQ9.out]
    have L3 : Hid (Below w.heap.size w z3) := bchain (bchain L2.out (by go_grown)) hb
    have D3 : Hid (C3 (z3.alloc (.cells #[.int .i64 P, .int .i64 Q, .string t] 38)) z2.heap.size (.int .i64 P) (.int .i64 Q) (.string t)) := (D2.out.below hb).below (by go_grown)
    obtain ⟨lp3, y0, y1, y2⟩ := D2.out.below hb
    clear hb D2
    cases K
    · go_wp2_with fail
      go_ret
      exact ⟨rfl, by have hk := L3.out; have hsz := L3.out.size; go_grown⟩
    · obtain ⟨ho9, ht9⟩ := HBK.out rfl
      have HE : Hid (txV P Q t = u) := ht9
      have HO9 : Hid (okV P Q t = true) := ho9
      clear ho9 ht9
      go_wp2_with (first
        | (go_at_call 23; refine (impl_ValueText P Q t _ (HV.out.below (bchain L3.out (by go_grown))) HTS.out).mono ?_; rintro e z4 ⟨rfl, hb⟩; rw [HE.out]; have L4 : Hid (Below w.heap.size w z4) := (bchain (bchain L3.out (by go_grown)) hb); obtain ⟨lq4, v0, v1, v2⟩ := D3.out.below hb; clear hb)
        | (go_at_call 26; refine (impl_ValueOk P Q t _ HTS.out).mono ?_; rintro e z5 ⟨rfl, hb⟩; rw [HO9.out]; have L5 : Hid (Below w.heap.size w z5) := (bchain L4.out hb); clear hb))
      go_ret
      exact ⟨rfl, L5.out⟩
  · have HRB : Hid (rvT (guess T) = .tuple #[.agg #[.int .i64 k, .int .i64 n, .string s], .bool true]) := by
      show _ = _
      rw [← HT.out]
      exact back_yes hO
    have HO : Hid (okV k n s = true) := hO
    clear hO
    go_wp2_with fail
    refine (impl_ReadValue T _ (by have := HTZ.out; omega) (HV.out.below K2.out)).mono ?_
    rintro e u3 ⟨rfl, hb⟩
    rw [HRB.out]
    have K3 : Hid (Below w.heap.size w u3) := bchain K2.out hb
    have CP : Hid (C3 (u3.alloc (.cells #[.int .i64 k, .int .i64 n, .string s] 38)) u1.heap.size (.int .i64 k) (.int .i64 n) (.string s)) := (C2.out.below hb).below (by go_grown)
    have CQ : Hid (C3 (u3.alloc (.cells #[.int .i64 k, .int .i64 n, .string s] 38)) u3.heap.size (.int .i64 k) (.int .i64 n) (.string s)) := C3.new _ _ _ _ _
    have KX : Hid (Below w.heap.size w (u3.alloc (.cells #[.int .i64 k, .int .i64 n, .string s] 38))) := bchain K3.out (by go_grown)
    clear hb C2 HRB
    go_wp2_with fail
    generalize hX : u3.alloc (.cells #[.int .i64 k, .int .i64 n, .string s] 38) = X at CP CQ KX ⊢
    clear hX
    obtain ⟨lp, p0, p1, p2⟩ := CP.out
    obtain ⟨lq, q0, q1, q2⟩ := CQ.out
    clear CP CQ
    refine wp_region_held_drew (S := (fun w' => (∀ bq oq, bq < X.heap.size → w'.cell? ⟨bq, oq, none⟩ = X.cell? ⟨bq, oq, none⟩) ∧ X.heap.size ≤ w'.heap.size ∧ Below X.heap.size X w')) (by kernel_rfl) (sc_of (by go_size) (by go_grown)) (fun hHeld => ?_)
    refine wpAnyH_take (i := 0) (v := ?_) rfl (by kernel_rfl) (by kernel_rfl) (by kernel_rfl) (fun _ _ _ h => h) (Or.inl ⟨by rfl, ?_⟩) (by assumption) ?_
    rotate_left
    · (intro wq hSw; (try dsimp only at hSw); go_simp <;> with_reducible rfl)
    try simp only [Act.put, List.getElem_toArray, List.getElem_cons_zero, List.getElem_cons_succ, List.setIfInBounds_toArray, List.set_cons_zero, List.set_cons_succ]
    refine wpAnyH_take (i := 1) (v := ?_) rfl (by kernel_rfl) (by kernel_rfl) (by kernel_rfl) (fun _ _ _ h => h) (Or.inl ⟨by rfl, ?_⟩) (by assumption) ?_
    rotate_left
    · (intro wq hSw; (try dsimp only at hSw); go_simp <;> with_reducible rfl)
    try simp only [Act.put, List.getElem_toArray, List.getElem_cons_zero, List.getElem_cons_succ, List.setIfInBounds_toArray, List.set_cons_zero, List.set_cons_succ]
    refine wpAnyH_ready (rs := [2]) (by kernel_rfl) (by simp) (AllReadyH.cons rfl (fun Kq hKq => ?_) AllReadyH.nil)
    go_simp
    (refine (spec_ValueText k n s _ HS.out).mono ?_; rintro e y1 ⟨rfl, hb⟩; rw [HT.out]; obtain ⟨hk1, hz1⟩ := bframe (B := X.heap.size) (X := X) (by go_grown) (by go_size) hb; have hC := fun b o h => hk1.cell (p := ⟨b, o, none⟩) h; clear hb)
    refine hKq.out _ _ ?_ (fun hHeld => ?_)
    · exact sc_of (by go_size) (by go_grown)
    clear hKq Kq
    try simp only [Act.put, List.getElem_toArray, List.getElem_cons_zero, List.getElem_cons_succ, List.setIfInBounds_toArray, List.set_cons_zero, List.set_cons_succ]
    refine wpAnyH_take (i := 3) (v := ?_) rfl (by kernel_rfl) (by kernel_rfl) (by kernel_rfl) (fun _ _ _ h => h) (Or.inl ⟨by rfl, ?_⟩) (by assumption) ?_
    rotate_left
    · (intro wq hSw; (try dsimp only at hSw); go_simp <;> with_reducible rfl)
    try simp only [Act.put, List.getElem_toArray, List.getElem_cons_zero, List.getElem_cons_succ, List.setIfInBounds_toArray, List.set_cons_zero, List.set_cons_succ]
    refine wpAnyH_take (i := 4) (v := ?_) rfl (by kernel_rfl) (by kernel_rfl) (by kernel_rfl) (fun _ _ _ h => h) (Or.inl ⟨by rfl, ?_⟩) (by assumption) ?_
    rotate_left
    · (intro wq hSw; (try dsimp only at hSw); go_simp <;> with_reducible rfl)
    try simp only [Act.put, List.getElem_toArray, List.getElem_cons_zero, List.getElem_cons_succ, List.setIfInBounds_toArray, List.set_cons_zero, List.set_cons_succ]
    refine wpAnyH_take (i := 5) (v := ?_) rfl (by kernel_rfl) (by kernel_rfl) (by kernel_rfl) (fun _ _ _ h => h) (Or.inl ⟨by rfl, ?_⟩) (by assumption) ?_
    rotate_left
    · (intro wq hSw; (try dsimp only at hSw); go_simp <;> with_reducible rfl)
    try simp only [Act.put, List.getElem_toArray, List.getElem_cons_zero, List.getElem_cons_succ, List.setIfInBounds_toArray, List.set_cons_zero, List.set_cons_succ]
    refine wpAnyH_take (i := 7) (v := ?_) rfl (by kernel_rfl) (by kernel_rfl) (by kernel_rfl) (fun _ _ _ h => h) (Or.inl ⟨by rfl, ?_⟩) (by assumption) ?_
    rotate_left
    · (intro wq hSw; (try dsimp only at hSw); go_simp <;> with_reducible rfl)
    try simp only [Act.put, List.getElem_toArray, List.getElem_cons_zero, List.getElem_cons_succ, List.setIfInBounds_toArray, List.set_cons_zero, List.set_cons_succ]
    refine wpAnyH_ready (rs := [6]) (by kernel_rfl) (by simp) (AllReadyH.cons rfl (fun Kq hKq => ?_) AllReadyH.nil)
    go_simp
    (refine (impl_ValueOk k n s _ HS.out).mono ?_; rintro e y1 ⟨rfl, hb⟩; rw [HO.out]; obtain ⟨hk1, hz1⟩ := bframe (B := X.heap.size) (X := X) (by go_grown) (by go_size) hb; have hC := fun b o h => hk1.cell (p := ⟨b, o, none⟩) h; clear hb)
    refine hKq.out _ _ ?_ (fun hHeld => ?_)
    · exact sc_of (by go_size) (by go_grown)
    clear hKq Kq
    try simp only [Act.put, List.getElem_toArray, List.getElem_cons_zero, List.getElem_cons_succ, List.setIfInBounds_toArray, List.set_cons_zero, List.set_cons_succ]
    refine wpAnyH_ready (rs := [8]) (by kernel_rfl) (by simp) (AllReadyH.cons rfl (fun Kq hKq => ?_) AllReadyH.nil)
    go_simp
    (refine (spec_ValueOk k n s _ HS.out).mono ?_; rintro e y1 ⟨rfl, hb⟩; rw [HO.out]; obtain ⟨hk1, hz1⟩ := bframe (B := X.heap.size) (X := X) (by go_grown) (by go_size) hb; have hC := fun b o h => hk1.cell (p := ⟨b, o, none⟩) h; clear hb)
    refine hKq.out _ _ ?_ (fun hHeld => ?_)
    · exact sc_of (by go_size) (by go_grown)
    clear hKq Kq
    try simp only [Act.put, List.getElem_toArray, List.getElem_cons_zero, List.getElem_cons_succ, List.setIfInBounds_toArray, List.set_cons_zero, List.set_cons_succ]
    refine wpAnyH_take (i := 9) (v := ?_) rfl (by kernel_rfl) (by kernel_rfl) (by kernel_rfl) (fun _ _ _ h => h) (Or.inl ⟨by rfl, ?_⟩) (by assumption) ?_
    rotate_left
    · (intro wq hSw; (try dsimp only at hSw); go_simp <;> with_reducible rfl)
    try simp only [Act.put, List.getElem_toArray, List.getElem_cons_zero, List.getElem_cons_succ, List.setIfInBounds_toArray, List.set_cons_zero, List.set_cons_succ]
    refine wpAnyH_take (i := 10) (v := ?_) rfl (by kernel_rfl) (by kernel_rfl) (by kernel_rfl) (fun _ _ _ h => h) (Or.inl ⟨by rfl, ?_⟩) (by assumption) ?_
    rotate_left
    · (intro wq hSw; (try dsimp only at hSw); go_simp <;> with_reducible rfl)
    try simp only [Act.put, List.getElem_toArray, List.getElem_cons_zero, List.getElem_cons_succ, List.setIfInBounds_toArray, List.set_cons_zero, List.set_cons_succ]
    refine wpAnyH_take (i := 11) (v := ?_) rfl (by kernel_rfl) (by kernel_rfl) (by kernel_rfl) (fun _ _ _ h => h) (Or.inl ⟨by rfl, ?_⟩) (by assumption) ?_
    rotate_left
    · (intro wq hSw; (try dsimp only at hSw); go_simp <;> with_reducible rfl)
    try simp only [Act.put, List.getElem_toArray, List.getElem_cons_zero, List.getElem_cons_succ, List.setIfInBounds_toArray, List.set_cons_zero, List.set_cons_succ]
    refine wpAnyH_take (i := 12) (v := ?_) rfl (by kernel_rfl) (by kernel_rfl) (by kernel_rfl) (fun _ _ _ h => h) (Or.inl ⟨by rfl, ?_⟩) (by assumption) ?_
    rotate_left
    · (intro wq hSw; (try dsimp only at hSw); go_simp <;> with_reducible rfl)
    try simp only [Act.put, List.getElem_toArray, List.getElem_cons_zero, List.getElem_cons_succ, List.setIfInBounds_toArray, List.set_cons_zero, List.set_cons_succ]
    refine wpAnyH_ready (rs := [13]) (by kernel_rfl) (by simp) (AllReadyH.cons rfl (fun Kq hKq => ?_) AllReadyH.nil)
    go_simp
    (refine (impl_ValueOk k n s _ HS.out).mono ?_; rintro e y1 ⟨rfl, hb⟩; rw [HO.out]; obtain ⟨hk1, hz1⟩ := bframe (B := X.heap.size) (X := X) (by go_grown) (by go_size) hb; have hC := fun b o h => hk1.cell (p := ⟨b, o, none⟩) h; clear hb)
    refine hKq.out _ _ ?_ (fun hHeld => ?_)
    · exact sc_of (by go_size) (by go_grown)
    clear hKq Kq
    try simp only [Act.put, List.getElem_toArray, List.getElem_cons_zero, List.getElem_cons_succ, List.setIfInBounds_toArray, List.set_cons_zero, List.set_cons_succ]
    refine wpAnyH_take (i := 14) (v := ?_) rfl (by kernel_rfl) (by kernel_rfl) (by kernel_rfl) (fun _ _ _ h => h) (Or.inl ⟨by rfl, ?_⟩) (by assumption) ?_
    rotate_left
    · (intro wq hSw; (try dsimp only at hSw); go_simp <;> with_reducible rfl)
    try simp only [Act.put, List.getElem_toArray, List.getElem_cons_zero, List.getElem_cons_succ, List.setIfInBounds_toArray, List.set_cons_zero, List.set_cons_succ]
    refine wpAnyH_take (i := 15) (v := ?_) rfl (by kernel_rfl) (by kernel_rfl) (by kernel_rfl) (fun _ _ _ h => h) (Or.inl ⟨by rfl, ?_⟩) (by assumption) ?_
    rotate_left
    · (intro wq hSw; (try dsimp only at hSw); go_simp <;> with_reducible rfl)
    try simp only [Act.put, List.getElem_toArray, List.getElem_cons_zero, List.getElem_cons_succ, List.setIfInBounds_toArray, List.set_cons_zero, List.set_cons_succ]
    refine wpAnyH_take (i := 16) (v := ?_) rfl (by kernel_rfl) (by kernel_rfl) (by kernel_rfl) (fun _ _ _ h => h) (Or.inl ⟨by rfl, ?_⟩) (by assumption) ?_
    rotate_left
    · (intro wq hSw; (try dsimp only at hSw); go_simp <;> with_reducible rfl)
    try simp only [Act.put, List.getElem_toArray, List.getElem_cons_zero, List.getElem_cons_succ, List.setIfInBounds_toArray, List.set_cons_zero, List.set_cons_succ]
    refine wpAnyH_take (i := 17) (v := ?_) rfl (by kernel_rfl) (by kernel_rfl) (by kernel_rfl) (fun _ _ _ h => h) (Or.inl ⟨by rfl, ?_⟩) (by assumption) ?_
    rotate_left
    · (intro wq hSw; (try dsimp only at hSw); go_simp <;> with_reducible rfl)
    try simp only [Act.put, List.getElem_toArray, List.getElem_cons_zero, List.getElem_cons_succ, List.setIfInBounds_toArray, List.set_cons_zero, List.set_cons_succ]
    refine wpAnyH_take (i := 18) (v := ?_) rfl (by kernel_rfl) (by kernel_rfl) (by kernel_rfl) (fun _ _ _ h => h) (Or.inl ⟨by rfl, ?_⟩) (by assumption) ?_
    rotate_left
    · (intro wq hSw; (try dsimp only at hSw); go_simp <;> with_reducible rfl)
    try simp only [Act.put, List.getElem_toArray, List.getElem_cons_zero, List.getElem_cons_succ, List.setIfInBounds_toArray, List.set_cons_zero, List.set_cons_succ]
    refine wpAnyH_take (i := 19) (v := ?_) rfl (by kernel_rfl) (by kernel_rfl) (by kernel_rfl) (fun _ _ _ h => h) (Or.inl ⟨by rfl, ?_⟩) (by assumption) ?_
    rotate_left
    · (intro wq hSw; (try dsimp only at hSw); go_simp <;> with_reducible rfl)
    try simp only [Act.put, List.getElem_toArray, List.getElem_cons_zero, List.getElem_cons_succ, List.setIfInBounds_toArray, List.set_cons_zero, List.set_cons_succ]
    refine wpAnyH_take (i := 20) (v := ?_) rfl (by kernel_rfl) (by kernel_rfl) (by kernel_rfl) (fun _ _ _ h => h) (Or.inl ⟨by rfl, ?_⟩) (by assumption) ?_
    rotate_left
    · (intro wq hSw; (try dsimp only at hSw); go_simp <;> with_reducible rfl)
    try simp only [Act.put, List.getElem_toArray, List.getElem_cons_zero, List.getElem_cons_succ, List.setIfInBounds_toArray, List.set_cons_zero, List.set_cons_succ]
    refine wpAnyH_take (i := 21) (v := ?_) rfl (by kernel_rfl) (by kernel_rfl) (by kernel_rfl) (fun _ _ _ h => h) (Or.inl ⟨by rfl, ?_⟩) (by assumption) ?_
    rotate_left
    · (intro wq hSw; (try dsimp only at hSw); go_simp <;> with_reducible rfl)
    try simp only [Act.put, List.getElem_toArray, List.getElem_cons_zero, List.getElem_cons_succ, List.setIfInBounds_toArray, List.set_cons_zero, List.set_cons_succ]
    refine wpAnyH_take (i := 22) (v := ?_) rfl (by kernel_rfl) (by kernel_rfl) (by kernel_rfl) (fun _ _ _ h => h) (Or.inl ⟨by rfl, ?_⟩) (by assumption) ?_
    rotate_left
    · (intro wq hSw; (try dsimp only at hSw); go_simp <;> with_reducible rfl)
    try simp only [Act.put, List.getElem_toArray, List.getElem_cons_zero, List.getElem_cons_succ, List.setIfInBounds_toArray, List.set_cons_zero, List.set_cons_succ]
    refine wpAnyH_take (i := 23) (v := ?_) rfl (by kernel_rfl) (by kernel_rfl) (by kernel_rfl) (fun _ _ _ h => h) (Or.inl ⟨by rfl, ?_⟩) (by assumption) ?_
    rotate_left
    · (intro wq hSw; (try dsimp only at hSw); go_simp <;> with_reducible rfl)
    try simp only [Act.put, List.getElem_toArray, List.getElem_cons_zero, List.getElem_cons_succ, List.setIfInBounds_toArray, List.set_cons_zero, List.set_cons_succ]
    refine wpAnyH_done (by kernel_rfl) ?_ _
    go_wp2_with fail
    have K4 : Hid (Below w.heap.size w y1) := bchain KX.out (by go_grown)
    refine (draw_readValue A len cap _ (HC.out.below K4.out)).mono ?_
    rintro e z1 ⟨u, rfl, hus, hb⟩
    have L1 : Hid (Below w.heap.size w z1) := bchain K4.out hb
    have HUS : Hid (u.size ≤ 300) := hus
    clear hb hus
    obtain ⟨P, Q, t, K, hpl, ht, hbk⟩ := rvT_parts u
    have HP : Hid (rvT (guess u) = .tuple #[.agg #[.int .i64 P, .int .i64 Q, .string t], .bool K]) := hpl
    have HQ9 : Hid (rvS u = .tuple #[.agg #[.int .i64 P, .int .i64 Q, .string t], .bool K]) := (rv_same u).symm.trans hpl
    have HBK : Hid (K = true → okV P Q t = true ∧ txV P Q t = u) := hbk
    have HTS : Hid (t.size ≤ maxLen) := by have := HUS.out; exact Nat.le_trans ht (by unfold maxLen; omega)
    clear hpl hbk ht
    go_wp2_with fail
    refine (impl_ReadValue u _ (by have := HUS.out; omega) (HV.out.below L1.out)).mono ?_
    rintro e z2 ⟨rfl, hb⟩
    rw [HP.out]
    have L2 : Hid (Below w.heap.size w z2) := bchain L1.out hb
    have D2 : Hid (C3 (z2.alloc (.cells #[.int .i64 P, .int .i64 Q, .string t] 38)) z2.heap.size (.int .i64 P) (.int .i64 Q) (.string t)) := C3.new _ _ _ _ _
    clear hb
    go_wp2_with fail
    refine (spec_ReadValue u _ (by have := HUS.out; omega)).mono ?_
    rintro e z3 ⟨rfl, hb⟩
    rw [HQ9.out]
    have L3 : Hid (Below w.heap.size w z3) := bchain (bchain L2.out (by go_grown)) hb
    have D3 : Hid (C3 (z3.alloc (.cells #[.int .i64 P, .int .i64 Q, .string t] 38)) z2.heap.size (.int .i64 P) (.int .i64 Q) (.string t)) := (D2.out.below hb).below (by go_grown)
    obtain ⟨lp3, y0, y1, y2⟩ := D2.out.below hb
    clear hb D2
    cases K
    · go_wp2_with fail
      go_ret
      exact ⟨rfl, by have hk := L3.out; have hsz := L3.out.size; go_grown⟩
    · obtain ⟨ho9, ht9⟩ := HBK.out rfl
      have HE : Hid (txV P Q t = u) := ht9
      have HO9 : Hid (okV P Q t = true) := ho9
      clear ho9 ht9
      go_wp2_with (first
        | (go_at_call 23; refine (impl_ValueText P Q t _ (HV.out.below (bchain L3.out (by go_grown))) HTS.out).mono ?_; rintro e z4 ⟨rfl, hb⟩; rw [HE.out]; have L4 : Hid (Below w.heap.size w z4) := (bchain (bchain L3.out (by go_grown)) hb); obtain ⟨lq4, v0, v1, v2⟩ := D3.out.below hb; clear hb)
        | (go_at_call 26; refine (impl_ValueOk P Q t _ HTS.out).mono ?_; rintro e z5 ⟨rfl, hb⟩; rw [HO9.out]; have L5 : Hid (Below w.heap.size w z5) := (bchain L4.out hb); clear hb))
      go_ret
      exact ⟨rfl, L5.out⟩
end Go.Proofs.YtidmajdiidfceaaDoor
