import Derived.Test.YtjkioadjclfmiaaDoorFrC
import Derived.Deep.RegionHeld3
namespace Go.Proofs.YtjkioadjclfmiaaDoor
open Go.RowKit
set_option linter.unusedSimpArgs false
set_option linter.unusedVariables false

def pnum (s : ByteArray) (a : Nat) : Nat → Nat
  | 0 => 0
  | k + 1 => 256 * pnum s a k + bt s (a + k)
theorem pnum_four (s : ByteArray) (a : Nat) : pnum s a 4 = nAt s a := by
  simp only [pnum, nAt, num4, Nat.add_zero]
  omega
theorem pnum_lt (s : ByteArray) (a : Nat) : ∀ k, k ≤ 4 → pnum s a k < 4294967296
  | 0, _ => by simp [pnum]
  | 1, _ => by have := bt_lt s (a + 0); simp only [pnum]; omega
  | 2, _ => by have := bt_lt s (a + 0); have := bt_lt s (a + 1); simp only [pnum]; omega
  | 3, _ => by have := bt_lt s (a + 0); have := bt_lt s (a + 1); have := bt_lt s (a + 2); simp only [pnum]; omega
  | 4, _ => by rw [pnum_four]; exact nAt_lt s a
  | k + 5, h => by omega
/-- The frame's sum, as four bytes, against those that are there. -/
theorem four_num {n m : Nat} (hn : n < 4294967296) (hm : m < 4294967296) (h : four n = four m) : n = m := by
  unfold four at h
  have h1 := congrArg ByteArray.data h
  simp only [Array.mk.injEq, List.cons.injEq, and_true] at h1
  obtain ⟨e0, e1, e2, e3⟩ := h1
  have k0 := congrArg UInt8.toNat e0
  have k1 := congrArg UInt8.toNat e1
  have k2 := congrArg UInt8.toNat e2
  have k3 := congrArg UInt8.toNat e3
  simp only [UInt8.toNat_ofNat'] at k0 k1 k2 k3
  omega
theorem four_nAt {s : ByteArray} {a b : Nat} (h : a + 4 = b) (hb : b ≤ s.size) : s.extract a b = four (nAt s a) := by
  subst h
  apply ByteArray.ext
  apply Array.toList_inj.1
  apply List.ext_getElem?
  intro i
  rw [list_extract]
  have h0 := bt_lt s a; have h1 := bt_lt s (a + 1); have h2 := bt_lt s (a + 2); have h3 := bt_lt s (a + 3)
  have key : ∀ j, j < 4 → s.data.toList[a + j]? = some (UInt8.ofNat (bt s (a + j))) := fun j hj => by
    have hl : a + j < s.data.toList.length := by simp; omega
    rw [List.getElem?_eq_getElem hl]
    unfold bt
    rw [List.getD_eq_getElem?_getD, List.getElem?_eq_getElem hl]
    simp
  rw [List.getElem?_take, List.getElem?_drop]
  unfold four nAt num4
  match i with
  | 0 => rw [if_pos (by omega), key 0 (by omega)]; simp; congr 1; omega
  | 1 => rw [if_pos (by omega), key 1 (by omega)]; simp; congr 1; omega
  | 2 => rw [if_pos (by omega), key 2 (by omega)]; simp; congr 1; omega
  | 3 => rw [if_pos (by omega), key 3 (by omega)]; simp; congr 1; omega
  | k + 4 => rw [if_neg (by omega)]; simp
theorem four_ne {s : ByteArray} {a n : Nat} (hn : n < 4294967296) (hb : a + 4 ≤ s.size) : ((four n).toList == (s.extract a (a + 4)).toList) = (n == nAt s a) := by
  rw [four_nAt rfl hb, Bool.eq_iff_iff]
  constructor
  · intro h; rw [four_num hn (nAt_lt s a) (str_of h)]; simp
  · intro h; rw [eq_of_beq h]; simp

theorem bchain2 {w W w1 : World} (h0 : Below w.heap.size w W) (hb : Below W.heap.size W w1) : Below w.heap.size w w1 := bchain h0 hb
set_option maxHeartbeats 4000000 in
theorem spec_TakeFrames (s : ByteArray) (hs : s.size ≤ 4000000) (w : World) : Calls Tryd.prog 9 #[.string s] w (TakesC s w) := by
  obtain ⟨i0, hi, iz0, iz1, iz2⟩ := info_parts infoStrC
  go_enter Tryd.func9, Tryd.ntmps9
  go_wp2_with fail
  go_loopw [4, 5] (fun v p wr => ∃ xs a, FRd s xs a ∧ p = .int .i64 (a : Nat) ∧ wr.ownsRow w.heap.size 9 1 v xs.length (xs.map Value.string) ∧ Below w.heap.size w wr) (fun _ p _ => s.size - (intOf p).toNat)
  case atStart => exact ⟨[], 0, .nil, rfl, own_emptyC (Nat.le_refl _) rfl, by go_grown⟩
  case round =>
    obtain ⟨xs, a, hrd, rfl, hown, hbel⟩ := hrel
    have HW : Hid (wr.ownsRow w.heap.size 9 1 u4 xs.length (xs.map Value.string)) := hown
    have HR : Hid (FRd s xs a) := hrd
    have hle := hrd.le
    have hmany := hrd.many
    clear hown hrd
    by_cases h8 : a + 8 ≤ s.size
    · have q8 : (a : Int) + 8 ≤ (s.size : Int) := by omega
      go_wp2_with fail
      go_loop [6, 7] (fun v i => ∃ k : Nat, k ≤ 4 ∧ i = .int .i64 k ∧ v = .int .i64 (pnum s a k : Nat)) (fun _ i => 4 - (intOf i).toNat)
      case atStart => exact ⟨0, Nat.zero_le _, rfl, rfl⟩
      case round =>
        obtain ⟨k, hk, rfl, rfl⟩ := hrel
        by_cases hk4 : k < 4
        · have q1 : (k : Int) < 4 := by omega
          have q0 : (0 : Int) ≤ (a : Int) + (k : Int) := by omega
          have q2 : (a : Int) + (k : Int) < (s.size : Int) := by omega
          have hp := pnum_lt s a k hk
          have HB : Hid ((s[a + k]'(by omega)).toNat = bt s (a + k)) := bt_get (by omega)
          have hbl := bt_lt s (a + k)
          have HP : Hid (pnum s a (k + 1) = 256 * pnum s a k + bt s (a + k)) := rfl
          obtain ⟨p, HPP⟩ : ∃ p : Nat, Hid (p = pnum s a k) := ⟨_, rfl⟩
          rw [← HPP.out] at hp HP ⊢
          obtain ⟨b, HBB⟩ : ∃ p : Nat, Hid (p = bt s (a + k)) := ⟨_, rfl⟩
          rw [← HBB.out] at HB HP hbl
          have hB : (((s[a + k]'(by omega)).toNat : Nat) : Int) = (b : Int) := by have := HB.out; omega
          go_wp2_with fail
          go_round
          case rel => exact ⟨k + 1, by omega, by go_num, by rw [HP.out]; simp⟩
          case measure => simp [intOf]; omega
        · obtain rfl : k = 4 := by omega
          rw [pnum_four]
          obtain ⟨n, HN⟩ : ∃ n : Nat, Hid (n = nAt s a) := ⟨_, rfl⟩
          have hn : n < 4294967296 := by rw [HN.out]; exact nAt_lt s a
          rw [← HN.out]
          have HNo : Hid (¬ (n ≤ 1000000 ∧ a + 8 + n ≤ s.size) → frB s a = false) := fun h => by
            unfold frB
            rw [← HN.out, decide_eq_false (p := a + 8 ≤ s.size ∧ n ≤ 1000000 ∧ a + 8 + n ≤ s.size) (by omega), Bool.false_and]
          by_cases h1 : 1000000 < n
          · have q1 : (1000000 : Int) < (n : Int) := by omega
            have q1' : decide ((1000000 : Int) < (n : Int)) = true := decide_eq_true q1
            go_wp2_with fail
            go_quiet (fail)
            go_wp2_with fail
            refine bodyPost_ret (v := .tuple #[u4, .int .i64 (a : Nat)]) ?_ rfl ⟨xs, a, u4, rfl, HR.out, HNo.out (by omega), own_drewN HW.out _, below_drewN hbel _⟩
            simp (maxDischargeDepth := 9) [results, Tryd.results9, go_sem, *]
          have q1 : ¬ (1000000 : Int) < (n : Int) := by omega
          have q1' : decide ((1000000 : Int) < (n : Int)) = false := decide_eq_false q1
          by_cases h2 : s.size < a + 8 + n
          · have q2 : (s.size : Int) < (a : Int) + 8 + (n : Int) := by omega
            have q2' : decide ((s.size : Int) < (a : Int) + 8 + (n : Int)) = true := decide_eq_true q2
            go_wp2_with fail
            go_quiet (fail)
            go_wp2_with fail
            refine bodyPost_ret (v := .tuple #[u4, .int .i64 (a : Nat)]) ?_ rfl ⟨xs, a, u4, rfl, HR.out, HNo.out (by omega), own_drewN HW.out _, below_drewN hbel _⟩
            simp (maxDischargeDepth := 9) [results, Tryd.results9, go_sem, *]
          have q2 : ¬ (s.size : Int) < (a : Int) + 8 + (n : Int) := by omega
          have q2' : decide ((s.size : Int) < (a : Int) + 8 + (n : Int)) = false := decide_eq_false q2
          have r0 : (0 : Int) ≤ (a : Int) + 8 := by omega
          have r1 : (a : Int) + 8 ≤ (a : Int) + 8 + (n : Int) := by omega
          have r2 : (a : Int) + 8 + (n : Int) ≤ (s.size : Int) := by omega
          have r3 : (0 : Int) ≤ (a : Int) + 4 := by omega
          have r4 : (a : Int) + 4 ≤ (a : Int) + 8 := by omega
          have hw8 : IntKind.i64.wrap ((a : Int) + 8) = (a : Int) + 8 := by rw [IntKind.wrap_i64]; omega
          have hw4 : IntKind.i64.wrap ((a : Int) + 4) = (a : Int) + 4 := by rw [IntKind.wrap_i64]; omega
          have hwn : IntKind.i64.wrap ((a : Int) + 8 + (n : Int)) = (a : Int) + 8 + (n : Int) := by rw [IntKind.wrap_i64]; omega
          have ht8 : ((a : Int) + 8).toNat = a + 8 := by omega
          have ht4 : ((a : Int) + 4).toNat = a + 4 := by omega
          have htn : ((a : Int) + 8 + (n : Int)).toNat = a + 8 + n := by omega
          obtain ⟨d, HD⟩ : ∃ d : ByteArray, Hid (d = s.extract (a + 8) (a + 8 + n)) := ⟨_, rfl⟩
          have hD : s.extract (a + 8) (a + 8 + n) = d := HD.out.symm
          have hd : d.size = n := by rw [HD.out, fext_size (by omega)]; omega
          obtain ⟨c, HC⟩ : ∃ c : Nat, Hid (c = crcT d) := ⟨_, rfl⟩
          have hc : c < 4294967296 := by rw [HC.out]; exact crcT_lt d
          have HB : Hid (frB s a = (c == nAt s (a + 4))) := by
            show _ = _
            unfold frB
            rw [← HN.out, decide_eq_true (p := a + 8 ≤ s.size ∧ n ≤ 1000000 ∧ a + 8 + n ≤ s.size) (by omega), Bool.true_and, ← HD.out, ← HC.out]
          have HE : Hid (((four c).toList == (s.extract (a + 4) (a + 8)).toList) = (c == nAt s (a + 4))) := four_ne hc (by omega)
          cases hf : (c == nAt s (a + 4))
          · have hE : ((four c).toList == (s.extract (a + 4) (a + 8)).toList) = false := by rw [HE.out, hf]
            have HF : Hid (frB s a = false) := by show _ = _; rw [HB.out, hf]
            clear hf
            go_wp2_with fail
            go_region_held3 (fun w' => (∀ bq oq, bq < wr.heap.size → w'.cell? ⟨bq, oq, none⟩ = wr.cell? ⟨bq, oq, none⟩) ∧ wr.heap.size ≤ w'.heap.size ∧ Below wr.heap.size wr w')
              (exact sc_of (Nat.le_refl _) (by go_grown))
              (first
              | (go_at_call 23; (try rw [ht8, htn, hD]); refine (spec_l14Sum _ ?_ _).mono ?_; · omega
                 rintro e w1 ⟨rfl, hb⟩; rw [← HC.out]; obtain ⟨hk1, hz1⟩ := bframe (B := wr.heap.size) (X := wr) (by go_grown) (by go_size) hb; clear hb)
              | (go_at_call 22; refine (spec_l14Four _ ?_ _).mono ?_; · omega
                 rintro e w1 ⟨rfl, hb⟩; obtain ⟨hk1, hz1⟩ := bframe (B := wr.heap.size) (X := wr) (by go_grown) (by go_size) hb; clear hb))
            all_goals go_wp2_with fail
            all_goals
              refine bodyPost_ret (v := .tuple #[u4, .int .i64 (a : Nat)]) ?_ rfl ⟨xs, a, u4, rfl, HR.out, HF.out, own_below HW.out (by go_grown), bchain2 hbel (by go_grown)⟩
              simp (maxDischargeDepth := 9) [results, Tryd.results9, go_sem, *]
          · have hE : ((four c).toList == (s.extract (a + 4) (a + 8)).toList) = true := by rw [HE.out, hf]
            have HF : Hid (frB s a = true) := by show _ = _; rw [HB.out, hf]
            clear hf
            have HS : Hid (FRd s (xs ++ [d]) (a + 8 + n)) := by have := FRd.step HR.out HF.out; unfold frD at this; rw [← HN.out, ← HD.out] at this; exact this
            go_wp2_with fail
            go_region_held3 (fun w' => (∀ bq oq, bq < wr.heap.size → w'.cell? ⟨bq, oq, none⟩ = wr.cell? ⟨bq, oq, none⟩) ∧ wr.heap.size ≤ w'.heap.size ∧ Below wr.heap.size wr w')
              (exact sc_of (Nat.le_refl _) (by go_grown))
              (first
              | (go_at_call 23; (try rw [ht8, htn, hD]); refine (spec_l14Sum _ ?_ _).mono ?_; · omega
                 rintro e w1 ⟨rfl, hb⟩; rw [← HC.out]; obtain ⟨hk1, hz1⟩ := bframe (B := wr.heap.size) (X := wr) (by go_grown) (by go_size) hb; clear hb)
              | (go_at_call 22; refine (spec_l14Four _ ?_ _).mono ?_; · omega
                 rintro e w1 ⟨rfl, hb⟩; obtain ⟨hk1, hz1⟩ := bframe (B := wr.heap.size) (X := wr) (by go_grown) (by go_size) hb; clear hb))
            have HW1 : Hid (w1.ownsRow w.heap.size 9 1 u4 xs.length (xs.map Value.string)) := own_below HW.out hk1
            have hbel1 : Below w.heap.size w w1 := bchain hbel hk1
            clear HW hbel
            go_wp2_with (first
              | (at_builtin; refine wpList_append_own _ rfl _ _ 25 rfl w.heap.size 9 i0 (.string ⟨#[]⟩) 1 16 Tryd.underlying25 hi iz0 iz1 iz2 rfl (by decide) _ _ _ rfl (HW1.out.alloc _) ⟨w1.heap.size, 0, none⟩ 1 1 [.string d] rfl rfl ?c1 ?c2 ?c3 ?c4 ?c5 ?_)
              | go_in)
            case c1 =>
              intro q u hq
              match q, hq with
              | 0, hq => simp at hq; subst hq; simp [Addr.add]
            case c2 => intro u hu; simp at hu; subst hu; rfl
            case c3 => unfold maxLen; omega
            case c4 => omega
            case c5 => have := hbel1.size; simp; omega
            intro v' w1' hown' hgrow _
            have R2 := app_stepC HW1.out hbel1 hgrow
            have HW' : Hid (w1'.ownsRow w.heap.size 9 1 v' (xs ++ [d]).length ((xs ++ [d]).map Value.string)) := by show World.ownsRow _ _ _ _ _ _ _; rw [List.map_append, List.length_append]; exact hown'
            clear hown' hgrow HW1 hbel1
            go_wp2_with fail
            go_roundw
            case rel => exact ⟨xs ++ [d], a + 8 + n, HS.out, by go_num, HW'.out, R2⟩
            case measure => simp [intOf]; omega
    · have q8 : ¬ (a : Int) + 8 ≤ (s.size : Int) := by omega
      have HF : Hid (frB s a = false) := by show _ = _; unfold frB; rw [decide_eq_false (p := a + 8 ≤ s.size ∧ _) (by omega), Bool.false_and]
      go_wp2_with fail
      refine bodyPost_ret (v := .tuple #[u4, .int .i64 (a : Nat)]) ?_ rfl ⟨xs, a, u4, rfl, HR.out, HF.out, HW.out, hbel⟩
      simp (maxDischargeDepth := 9) [results, Tryd.results9, go_sem, *]
end Go.Proofs.YtjkioadjclfmiaaDoor
