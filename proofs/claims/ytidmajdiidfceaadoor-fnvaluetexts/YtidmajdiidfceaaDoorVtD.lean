import Derived.Test.YtidmajdiidfceaaDoorVtC
import Derived.Test.YtidmajdiidfceaaDoorDrawD
import Derived.Lib.ItoaLen
namespace Go.Proofs.YtidmajdiidfceaaDoor
open Go.RowKit
set_option linter.unusedSimpArgs false
set_option linter.unusedVariables false

/-! ### A value's text, read, comes back; what is read has its text -/
theorem it_first (n : Int) : ∃ h : 0 < (itB n).size, (itB n)[0].toNat = 45 ∨ (48 ≤ (itB n)[0].toNat ∧ (itB n)[0].toNat ≤ 57) := by
  have hs : 0 < (itB n).size := by
    show 0 < (Lib.itoa n).length
    unfold Lib.itoa
    split
    · simp
    · have := Lib.decDigits_length n.toNat
      have := Lib.nDigits_pos n.toNat
      omega
  refine ⟨hs, itoa_head (v := n) (l := (itB n).data.toList) rfl _ (head_at hs)⟩
theorem tr_first (k : Int) : ∀ s, s = trT k → ∀ h : 0 < s.size, s[0].toNat = 70 ∨ s[0].toNat = 84 := by
  rintro s rfl h
  by_cases h0 : k = 0
  · subst h0; left; rfl
  · right
    have e : trT k = trT 1 := by unfold trT; rw [if_neg h0, if_neg (by omega)]
    simp only [e]
    rfl
theorem rdec_it {n : Int} (h : rNum n = true) : rdec (itB n).data.toList = some n := by
  have hb := rNum_b h
  have h1 := itoa_sgnl n (by omega) (by omega)
  obtain ⟨h2, h3⟩ := sgnl_itoa h1
  exact rdec_ok (l := Lib.itoa n) h3 h2
theorem guess_num {n : Int} (h : rNum n = true) : guess (itB n) = (1, n, ⟨#[]⟩) := by
  obtain ⟨hs, hf⟩ := it_first n
  unfold guess
  rw [dif_pos hs, if_neg (by omega)]
  unfold guessB
  rw [if_neg (fun e => by have := tr_first 0 _ e hs; omega), if_neg (fun e => by have := tr_first 1 _ e hs; omega),
    if_neg (fun e => by have := er_head 1 (by omega) (by omega) _ e hs; omega), if_neg (fun e => by have := er_head 2 (by omega) (by omega) _ e hs; omega), if_neg (fun e => by have := er_head 3 (by omega) (by omega) _ e hs; omega),
    if_neg (fun e => by have := er_head 4 (by omega) (by omega) _ e hs; omega), if_neg (fun e => by have := er_head 5 (by omega) (by omega) _ e hs; omega), rdec_it h]
  rfl
theorem cat39_size (s : ByteArray) : 0 < ((⟨#[39]⟩ : ByteArray) ++ s).size := by rw [ByteArray.size_append]; show 0 < 1 + s.size; omega
theorem cat39_list (s : ByteArray) : ((⟨#[39]⟩ : ByteArray) ++ s).data.toList = 39 :: s.data.toList := by simp
theorem cat39_ext (s : ByteArray) : ((⟨#[39]⟩ : ByteArray) ++ s).extract 1 ((⟨#[39]⟩ : ByteArray) ++ s).size = s := by
  apply ByteArray.ext
  apply Array.ext'
  rw [ext_tail, cat39_list]
  rfl
theorem cat39_at (s : ByteArray) (h : 0 < ((⟨#[39]⟩ : ByteArray) ++ s).size) : (((⟨#[39]⟩ : ByteArray) ++ s)[0]).toNat = 39 := by
  have e := head_at h
  rw [cat39_list] at e
  simp only [List.head?_cons, Option.some.injEq] at e
  rw [← e]
  rfl
theorem guess_word (s : ByteArray) : guess ((⟨#[39]⟩ : ByteArray) ++ s) = (2, 0, s) := by
  unfold guess
  rw [dif_pos (cat39_size s), if_pos (cat39_at s _), cat39_ext]
theorem guess_tr {n : Int} (h : n = 0 ∨ n = 1) : guess (trT n) = (3, n, ⟨#[]⟩) := by
  rcases h with rfl | rfl
  · unfold guess
    rw [dif_pos (by decide), if_neg (by decide)]
    unfold guessB
    rw [if_pos rfl]
  · unfold guess
    rw [dif_pos (by decide), if_neg (by decide)]
    unfold guessB
    rw [if_neg (by decide), if_pos rfl]
theorem guess_er {n : Int} (h1 : 1 ≤ n) (h5 : n ≤ 5) : guess (erT n) = (4, n, ⟨#[]⟩) := by
  have hn : n = 1 ∨ n = 2 ∨ n = 3 ∨ n = 4 ∨ n = 5 := by omega
  rcases hn with rfl | rfl | rfl | rfl | rfl
  · unfold guess
    rw [dif_pos (by decide), if_neg (by decide)]
    unfold guessB
    rw [if_neg (by decide), if_neg (by decide), if_pos rfl]
  · unfold guess
    rw [dif_pos (by decide), if_neg (by decide)]
    unfold guessB
    rw [if_neg (by decide), if_neg (by decide), if_neg (by decide), if_pos rfl]
  · unfold guess
    rw [dif_pos (by decide), if_neg (by decide)]
    unfold guessB
    rw [if_neg (by decide), if_neg (by decide), if_neg (by decide), if_neg (by decide), if_pos rfl]
  · unfold guess
    rw [dif_pos (by decide), if_neg (by decide)]
    unfold guessB
    rw [if_neg (by decide), if_neg (by decide), if_neg (by decide), if_neg (by decide), if_neg (by decide), if_pos rfl]
  · unfold guess
    rw [dif_pos (by decide), if_neg (by decide)]
    unfold guessB
    rw [if_neg (by decide), if_neg (by decide), if_neg (by decide), if_neg (by decide), if_neg (by decide), if_neg (by decide), if_pos rfl]
theorem guess_back {k n : Int} {s : ByteArray} (h : okV k n s = true) : guess (txV k n s) = (k, n, s) := by
  rw [show txV k n s = txB k n s by unfold txV; rw [h]; rfl]
  rcases okV_kinds h with ⟨rfl, rfl, rfl⟩ | ⟨rfl, hr, rfl⟩ | ⟨rfl, rfl, hr⟩ | ⟨rfl, hr, rfl⟩ | ⟨rfl, h1, h5, rfl⟩
  · show guess ⟨#[]⟩ = _
    unfold guess
    rw [dif_neg (by decide)]
  · exact guess_num hr
  · exact guess_word s
  · exact guess_tr hr
  · exact guess_er h1 h5
theorem gOk_okV {g : Int × Int × ByteArray} (h : (g = (0, 0, ⟨#[]⟩)) ∨ (∃ n, g = (1, n, ⟨#[]⟩)) ∨ (∃ s, g = (2, 0, s)) ∨ (∃ n, g = (3, n, ⟨#[]⟩)) ∨ (∃ n, g = (4, n, ⟨#[]⟩)) ∨ g = (5, 0, ⟨#[]⟩)) : gOk g = okV g.1 g.2.1 g.2.2 := by
  rcases h with rfl | ⟨n, rfl⟩ | ⟨s, rfl⟩ | ⟨n, rfl⟩ | ⟨n, rfl⟩ | rfl
  · simp [gOk, okV, emp_nil]
  · simp [gOk, okV, emp_nil]
  · simp [gOk, okV]
  · simp [gOk, okV, emp_nil]
  · simp [gOk, okV, emp_nil]
  · simp [gOk, okV]
theorem guess_okV (t : ByteArray) : gOk (guess t) = okV (guess t).1 (guess t).2.1 (guess t).2.2 := by
  apply gOk_okV
  rcases guess_kinds t with h | h | ⟨s2, _, h⟩ | h | h | h
  · exact Or.inl h
  · exact Or.inr (Or.inl h)
  · exact Or.inr (Or.inr (Or.inl ⟨s2, h⟩))
  · exact Or.inr (Or.inr (Or.inr (Or.inl h)))
  · exact Or.inr (Or.inr (Or.inr (Or.inr (Or.inl h))))
  · exact Or.inr (Or.inr (Or.inr (Or.inr (Or.inr h))))
theorem cat39_back {t : ByteArray} (h : 0 < t.size) (h39 : t[0].toNat = 39) : (⟨#[39]⟩ : ByteArray) ++ t.extract 1 t.size = t := by
  apply ByteArray.ext
  apply Array.ext'
  rw [cat39_list, ext_tail]
  have e := head_at h
  cases hl : t.data.toList with
  | nil => rw [hl] at e; cases e
  | cons a r =>
    rw [hl] at e
    simp only [List.head?_cons, Option.some.injEq] at e
    rw [List.tail_cons, e]
    congr 1
    apply UInt8.toNat_inj.1
    rw [h39]; rfl
theorem guess_text (t : ByteArray) (h : gOk (guess t) = true) : txB (guess t).1 (guess t).2.1 (guess t).2.2 = t := by
  by_cases hs : 0 < t.size
  · by_cases h39 : t[0].toNat = 39
    · rw [show guess t = (2, 0, t.extract 1 t.size) by unfold guess; rw [dif_pos hs, if_pos h39]]
      exact cat39_back hs h39
    rw [show guess t = guessB t by unfold guess; rw [dif_pos hs, if_neg h39]] at h ⊢
    unfold guessB at h ⊢
    by_cases n0 : t = trT 0
    · rw [if_pos n0]; exact n0.symm
    by_cases n1 : t = trT 1
    · rw [if_neg n0, if_pos n1]; exact n1.symm
    by_cases n2 : t = erT 1
    · rw [if_neg n0, if_neg n1, if_pos n2]; exact n2.symm
    by_cases n3 : t = erT 2
    · rw [if_neg n0, if_neg n1, if_neg n2, if_pos n3]; exact n3.symm
    by_cases n4 : t = erT 3
    · rw [if_neg n0, if_neg n1, if_neg n2, if_neg n3, if_pos n4]; exact n4.symm
    by_cases n5 : t = erT 4
    · rw [if_neg n0, if_neg n1, if_neg n2, if_neg n3, if_neg n4, if_pos n5]; exact n5.symm
    by_cases n6 : t = erT 5
    · rw [if_neg n0, if_neg n1, if_neg n2, if_neg n3, if_neg n4, if_neg n5, if_pos n6]; exact n6.symm
    rw [if_neg n0, if_neg n1, if_neg n2, if_neg n3, if_neg n4, if_neg n5, if_neg n6] at h ⊢
    cases hr : rdec t.data.toList with
    | none => rw [hr] at h; simp [gNum, gOk] at h
    | some n =>
      show itB n = t
      unfold itB
      rw [(rdec_itoa hr).1]
  · rw [show guess t = (0, 0, ⟨#[]⟩) by unfold guess; rw [dif_neg hs]]
    exact (toList_nil_of (s := t) (by omega)).symm
theorem txV_size (k n : Int) (s : ByteArray) : (txV k n s).size ≤ 250 := by
  unfold txV
  cases ho : okV k n s
  · exact Nat.zero_le _
  · rw [if_pos rfl]
    rcases okV_kinds ho with ⟨rfl, rfl, rfl⟩ | ⟨rfl, hr, rfl⟩ | ⟨rfl, rfl, hr⟩ | ⟨rfl, hr, rfl⟩ | ⟨rfl, h1, h5, rfl⟩
    · exact Nat.zero_le _
    · have hb := rNum_b hr
      show (Lib.itoa n).length ≤ 250
      have := Lib.itoa_length_le n (by omega) (by omega)
      omega
    · show ((⟨#[39]⟩ : ByteArray) ++ s).size ≤ 250
      rw [ByteArray.size_append]
      have := rWord_b hr
      show 1 + s.size ≤ 250
      omega
    · rcases hr with rfl | rfl <;> decide
    · have hn : n = 1 ∨ n = 2 ∨ n = 3 ∨ n = 4 ∨ n = 5 := by omega
      rcases hn with rfl | rfl | rfl | rfl | rfl <;> decide

set_option maxRecDepth 100000 in
set_option maxHeartbeats 4000000 in
theorem draw_readValue (A : Option Addr) (len cap : Nat) (w : World) (h : Cd w A len) : Calls Tryd.prog 28 #[.slice A len cap] w fun e w' =>
    ∃ s : ByteArray, e = .returned (.string s) ∧ s.size ≤ 300 ∧ Below w.heap.size w w' := by
  have HH : Hid (Cd w A len) := h
  clear h
  go_enter Tryd.func28, Tryd.ntmps28
  go_wp2_with fail
  refine (spec_l1Open A len cap _).mono ?_
  rintro e w1 ⟨rfl, rfl⟩
  go_wp2_with fail
  refine (rd_value w.heap.size A len cap _ (HH.out.open (by go_grown) rfl)).mono ?_
  rintro e w2 ⟨k, n, s0, rfl, hs0, hr, hu⟩
  have HR2 : Hid (Rd w2 w.heap.size A len cap) := hr
  have HU2 : Hid (Below w.heap.size w w2) := Below.trans (by go_grown) hu.2.2.2
  have HS0 : Hid (s0.size ≤ maxLen) := hs0
  clear hr hu hs0
  go_wp2_with fail
  refine (spec_ValueText k n s0 _ HS0.out).mono ?_
  rintro e w3 ⟨rfl, hb⟩
  have HR3 : Hid (Rd w3 w.heap.size A len cap) := HR2.out.below hb
  have HU3 : Hid (Below w.heap.size w w3) := bchain HU2.out hb
  have hs := txV_size k n s0
  obtain ⟨s, HSS⟩ : ∃ s, Hid (txV k n s0 = s) := ⟨_, rfl⟩
  rw [HSS.out] at hs ⊢
  clear hb HR2 HU2
  go_wp2_with fail
  refine (rd_once w.heap.size A len cap 3 _ HR3.out (by omega) (by omega)).mono ?_
  rintro e w4 ⟨p, rfl, hr, hu⟩
  have HR4 : Hid (Rd w4 w.heap.size A len cap) := hr
  have HU4 : Hid (Below w.heap.size w w4) := HU3.out.trans hu.2.2.2
  clear hr hu HR3 HU3
  cases p
  · go_wp2_with fail
    go_ret
    exact ⟨s, rfl, by omega, HU4.out⟩
  · go_wp2_with fail
    refine (rd_below w.heap.size A len cap 7 _ (HR4.out.below (by go_grown)) (by omega) (by omega)).mono ?_
    rintro e w6 ⟨v, rfl, v0, v1, hr, hu⟩
    have hl5 := HR4.out.lt
    have HU6 : Hid (Below w.heap.size w w6) := HU4.out.trans (Below.trans (by go_grown) hu.2.2.2)
    have nr : ¬ w4.heap.size = w.heap.size := by omega
    obtain ⟨uc, uf, uz, ub⟩ := hu
    clear hr ub
    have q1 : ¬ 9223372036854775807 < s.size + 1 := by omega
    have q2 : ¬ 9223372036854775807 < s.size + 2 := by omega
    have q4 : ¬ 9223372036854775807 < s.size + 4 := by omega
    have hv : v = 0 ∨ v = 1 ∨ v = 2 ∨ v = 3 ∨ v = 4 ∨ v = 5 ∨ v = 6 := by omega
    rcases hv with rfl | rfl | rfl | rfl | rfl | rfl | rfl
    all_goals
      go_wp2_with fail
      go_ret
      exact ⟨_, rfl, by rw [ByteArray.size_append]; refine Nat.le_trans (Nat.add_le_add_left (show _ ≤ 10 by decide) _) (by omega), HU6.out⟩
end Go.Proofs.YtidmajdiidfceaaDoor
