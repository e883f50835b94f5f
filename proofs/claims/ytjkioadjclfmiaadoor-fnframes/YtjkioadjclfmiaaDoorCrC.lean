import Derived.Test.YtjkioadjclfmiaaDoorCrB
import Derived.Test.YtjkioadjclfmiaaDoorOwn
import Derived.Deep.AppendLies
namespace Go.Proofs.YtjkioadjclfmiaaDoor
open Go.RowKit

theorem own_emptyC {W : World} {B g : Nat} {e : TypeId} {size : Nat} (hB : B ≤ W.heap.size) (hg : g = W.heap.size) : (W.alloc (.cells #[] e)).ownsRow B e size (.slice (some ⟨g, 0, none⟩) 0 0) 0 [] := by
  subst hg
  exact World.ownsRow_made W #[] 0 hB (Nat.zero_le _) (by simp)
theorem app_stepC {w wi w1 : World} {e : TypeId} {size n : Nat} {v : Value} {xs : List Value} {o : Obj} (hown : wi.ownsRow w.heap.size e size v n xs) (hbel : Below w.heap.size w wi) 
    (hg : (wi.alloc o).grownBy w1 v.ownBlock) : Below w.heap.size w w1 := by
  have ha : Below w.heap.size w (wi.alloc o) := hbel.alloc hbel.size o
  have hs : (wi.alloc o).heap.size = wi.heap.size + 1 := by simp
  exact ha.grown hg (by have := hbel.size; omega) (fun k hk => (hown.lt k hk).1)
theorem infoU32 : (Tryd.prog.info? 39).map (fun i => (i.zero, i.size, i.bytes)) = some (some (.int .u32 0), 1, 4) := by kernel_rfl

/-- The first n rows of the table. -/
def ktab (n : Nat) : List Value := (List.range n).map fun i => .int .u32 (cstn 8 i : Nat)
theorem ktab_succ (n : Nat) : ktab (n + 1) = ktab n ++ [.int .u32 (cstn 8 n : Nat)] := by simp [ktab, List.range_succ]
theorem ktab_at {n i : Nat} (h : i < n) : (ktab n)[i]? = some (.int .u32 (cstn 8 i : Nat)) := by simp [ktab, h]

set_option maxHeartbeats 1000000 in
theorem spec_l14K (w : World) : Calls Tryd.prog 30 #[] w fun e w' =>
    ∃ v, e = .returned v ∧ w'.ownsRow w.heap.size 39 1 v 256 (ktab 256) ∧ Below w.heap.size w w' := by
  obtain ⟨i0, hi, hz0, hz1, hz2⟩ := info_parts infoU32
  obtain ⟨T, HT⟩ : ∃ T : List Value, Hid (T = ktab 256) := ⟨_, rfl⟩
  rw [← HT.out]
  go_enter Tryd.func30, Tryd.ntmps30
  go_wp2_with fail
  go_loopw [1, 2] (fun v i wr => ∃ k : Nat, k ≤ 256 ∧ i = .int .u32 k ∧ wr.ownsRow w.heap.size 39 1 v k (ktab k) ∧ Below w.heap.size w wr) (fun _ i _ => 256 - (intOf i).toNat)
  case atStart => exact ⟨0, Nat.zero_le _, rfl, own_emptyC (Nat.le_refl _) rfl, by go_grown⟩
  case round =>
    obtain ⟨k, hk, rfl, hown, hbel⟩ := hrel
    have HW : Hid (wr.ownsRow w.heap.size 39 1 u1 k (ktab k)) := hown
    clear hown
    by_cases hlt : k < 256
    · have q1 : (k : Int) < 256 := by omega
      go_wp2_with fail
      go_loop [3, 4] (fun c i => ∃ j : Nat, j ≤ 8 ∧ i = .int .i64 j ∧ c = .int .u32 (cstn j k : Nat)) (fun _ i => 8 - (intOf i).toNat)
      case atStart => exact ⟨0, Nat.zero_le _, rfl, rfl⟩
      case round =>
        obtain ⟨j, hj, rfl, rfl⟩ := hrel
        have HS : Hid (_ = _) := cstn_one j k
        have hc : cstn j k < 4294967296 := cstn_lt (by omega)
        obtain ⟨c, HC⟩ : ∃ c : Nat, Hid (c = cstn j k) := ⟨_, rfl⟩
        rw [← HC.out] at hc ⊢
        by_cases hl : j < 8
        · have q2 : (j : Int) < 8 := by omega
          by_cases ho : c % 2 = 1
          · have q3 : ((c : Int) % 2) = 1 := by omega
            have x1 : bits .xor .u32 ((c : Int) / 2) 3988292384 = ((c / 2 ^^^ 3988292384 : Nat) : Int) := by
              rw [show (c : Int) / 2 = ((c / 2 : Nat) : Int) by omega]
              exact xoru (c / 2) 3988292384 (by omega) (by omega)
            have HX : Hid (c / 2 ^^^ 3988292384 = cst c) := by unfold cst; rw [if_pos ho]; exact (rfl : _ = _)
            generalize c / 2 ^^^ 3988292384 = d at x1 HX
            go_wp2_with fail
            go_round
            case rel => exact ⟨j + 1, by omega, by go_num, by rw [HS.out, ← HC.out, HX.out]⟩
            case measure => simp [intOf]; omega
          · have q3 : ((c : Int) % 2) = 0 := by omega
            have HX : Hid ((c : Int) / 2 = ((cst c : Nat) : Int)) := by unfold cst; rw [if_neg ho]; exact (by omega : (c : Int) / 2 = ((c / 2 : Nat) : Int))
            go_wp2_with fail
            go_round
            case rel => exact ⟨j + 1, by omega, by go_num, by rw [HS.out, ← HC.out, HX.out]⟩
            case measure => simp [intOf]; omega
        · have q2 : ¬ (j : Int) < 8 := by omega
          obtain rfl : j = 8 := by omega
          go_wp2_with (first
            | (at_builtin; refine wpList_append_own _ rfl _ _ 46 rfl w.heap.size 39 i0 (.int .u32 0) 1 4 Tryd.underlying46 hi hz0 hz1 hz2 rfl (by decide) _ _ _ rfl (HW.out.alloc _) ⟨wr.heap.size, 0, none⟩ 1 1 [.int .u32 (c : Int)] rfl rfl ?c1 ?c2 ?c3 ?c4 ?c5 ?_)
            | go_in)
          case c2 => rfl
          case c3 => unfold maxLen; omega
          case c4 => omega
          case c5 => have := hbel.size; omega
          intro v' w1 hown' hgrow _
          have R2 := app_stepC HW.out hbel hgrow
          have HW' : Hid (w1.ownsRow w.heap.size 39 1 v' (k + 1) (ktab (k + 1))) := by show World.ownsRow _ _ _ _ _ _ _; rw [ktab_succ, ← HC.out]; exact hown'
          clear hown' hgrow HW hbel
          go_wp2_with fail
          go_roundw
          case rel => exact ⟨k + 1, by omega, by go_num, HW'.out, R2⟩
          case measure => simp [intOf]; omega
    · have q1 : ¬ (k : Int) < 256 := by omega
      obtain rfl : k = 256 := by omega
      go_wp2_with fail
      go_ret
      exact ⟨_, rfl, by rw [HT.out]; exact HW.out, hbel⟩

theorem xor8 (a b : Nat) (ha : a < 256) (hb : b < 256) : bits .xor .u8 (a : Int) (b : Int) = ((a ^^^ b : Nat) : Int) := u8_xor_nat a b ha hb

set_option maxHeartbeats 2000000 in
theorem spec_l14Sum (s : ByteArray) (hs : s.size ≤ 9223372036854775807) (w : World) : Calls Tryd.prog 23 #[.string s] w fun e w' =>
    e = .returned (.int .u32 (crcT s : Nat)) ∧ Below w.heap.size w w' := by
  go_enter Tryd.func23, Tryd.ntmps23
  go_wp2_with (go_at_call 30; refine (spec_l14K _).mono ?_; rintro e w1 ⟨v, rfl, hown, hb⟩; obtain ⟨A, cap, rfl, _, hcell⟩ := own_shape hown; have HO : Hid (_) := hown; clear hown)
  obtain ⟨g, rfl, _, hg, _⟩ := hcell 0 (by omega)
  have HK : Hid (∀ j : Nat, j < 256 → w1.cell? ⟨g, j, none⟩ = some (.int .u32 (cstn 8 j : Nat))) := fun j hj => by
    obtain ⟨g', e, _, _, hc, _⟩ := hcell j (by omega)
    cases e
    rw [hc, ktab_at hj]
  clear hcell HO
  go_loop [4, 5] (fun c i => ∃ k : Nat, k ≤ s.size ∧ i = .int .i64 k ∧ c = .int .u32 (crcL 4294967295 (s.data.toList.take k) : Nat)) (fun _ i => s.size - (intOf i).toNat)
  case atStart => exact ⟨0, Nat.zero_le _, rfl, rfl⟩
  case round =>
    obtain ⟨k, hk, rfl, rfl⟩ := hrel
    have hc0 : crcL 4294967295 (s.data.toList.take k) < 4294967296 := crcL_lt (by omega)
    by_cases hlt : k < s.size
    · have q1 : (k : Int) < (s.size : Int) := by omega
      have q0 : (0 : Int) ≤ (k : Int) := by omega
      have HT : Hid (_ = _) := crc_take s k hlt
      obtain ⟨c, HC⟩ : ∃ c : Nat, Hid (c = crcL 4294967295 (s.data.toList.take k)) := ⟨_, rfl⟩
      rw [← HC.out] at hc0 ⊢
      obtain ⟨b, HB⟩ : ∃ b : Nat, Hid (b = (s[k]).toNat) := ⟨(s[k]).toNat, (rfl : (s[k]).toNat = _)⟩
      have hb' : b < 256 := by have := HB.out; have := (s[k]).toNat_lt; omega
      have hB : ((s[k]).toNat : Int) = (b : Int) := by have := HB.out; omega
      obtain ⟨d, HD⟩ : ∃ d : Nat, Hid (d = c % 256 ^^^ b) := ⟨_, rfl⟩
      have hd : d < 256 := by rw [HD.out]; exact Nat.xor_lt_two_pow (n := 8) (by omega) (by omega)
      have x1 : bits .xor .u8 ((c : Int) % 256) (b : Int) = (d : Int) := by
        rw [HD.out, show (c : Int) % 256 = ((c % 256 : Nat) : Int) by omega]
        exact xor8 _ _ (by omega) hb'
      have l1 := HK.out d hd
      have HW : Hid (c / 256 ^^^ cstn 8 d = crcR c b) := by rw [HD.out]; exact whole c b hb'
      have hr : cstn 8 d < 4294967296 := cstn_lt (by omega)
      generalize cstn 8 d = r at l1 HW hr
      have y1 : bits .xor .u32 ((c : Int) / 256) (r : Int) = ((c / 256 ^^^ r : Nat) : Int) := by
        rw [show (c : Int) / 256 = ((c / 256 : Nat) : Int) by omega]
        exact xoru _ _ (by omega) hr
      generalize c / 256 ^^^ r = z at y1 HW
      go_wp2_with fail
      go_round
      case rel => exact ⟨k + 1, by omega, by go_num, by rw [HT.out, ← HC.out, ← HB.out, HW.out]⟩
      case measure => simp [intOf]; omega
    · have q1 : ¬ (k : Int) < (s.size : Int) := by omega
      obtain rfl : k = s.size := by omega
      have e : crcL 4294967295 (s.data.toList.take s.size) = crcL 4294967295 s.data.toList := by rw [List.take_of_length_le (by simp)]
      rw [e] at hc0 ⊢
      have n1 : Hid (_ = _) := notu _ hc0
      clear e
      go_wp2_with fail
      go_ret
      exact ⟨ret_int n1.out, hb⟩

set_option maxHeartbeats 1000000 in
theorem spec_FrameOf (s : ByteArray) (hs : s.size ≤ 4000000) (w : World) : Calls Tryd.prog 13 #[.string s] w fun e w' =>
    e = .returned (.string (frameT s)) ∧ Below w.heap.size w w' := by
  by_cases h : 1000000 < s.size
  · have HF : Hid (frameT s = ⟨#[]⟩) := if_pos h
    have q' : (1000000 : Int) < (s.size : Int) := by omega
    go_enter Tryd.func13, Tryd.ntmps13
    go_wp2_with fail
    go_ret
    exact ⟨ret_str HF.out.symm, by go_grown⟩
  · obtain ⟨n, HN⟩ : ∃ n : Nat, Hid (n = crcT s) := ⟨_, rfl⟩
    have hn : n < 4294967296 := by rw [HN.out]; exact crcT_lt s
    obtain ⟨m, HM⟩ : ∃ m : Nat, Hid (m = s.size) := ⟨_, rfl⟩
    have hm : m ≤ 1000000 := by have := HM.out; omega
    have HF : Hid (frameT s = four m ++ four n ++ s) := by rw [HN.out, HM.out]; exact if_neg h
    have hM : s.size = m := HM.out.symm
    have z1 : (four m).size = 4 := four_size m
    have z2 : (four n).size = 4 := four_size n
    have q' : ¬ (1000000 : Int) < (m : Int) := by omega
    have q : (m : Int) % 4294967296 = (m : Int) := by omega
    clear h
    go_enter Tryd.func13, Tryd.ntmps13
    go_wp2_with (first
      | (go_at_call 23; refine (spec_l14Sum s (by omega) _).mono ?_; rintro e w2 ⟨rfl, hb2⟩; rw [← HN.out]; have hb4 := bchain hb hb2; clear hb hb2)
      | (go_at_call 22; refine (spec_l14Four _ ?_ _).mono ?_; · omega
         rintro e w1 ⟨rfl, hb2⟩; first | (have hb3 := bchain hb4 hb2; clear hb4 hb2) | (have hb := hb2; clear hb2)))
    go_ret
    exact ⟨ret_str HF.out.symm, hb3⟩
end Go.Proofs.YtjkioadjclfmiaaDoor
