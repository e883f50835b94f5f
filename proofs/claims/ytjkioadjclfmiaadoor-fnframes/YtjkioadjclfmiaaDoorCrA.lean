import Derived.Test.YtjkioadjclfmiaaDoorCrM
import Derived.Test.YtjkioadjclfmiaaDoorStrs
import Derived.Laws.IdiomStrings
namespace Go.Proofs.YtjkioadjclfmiaaDoor
open Go.RowKit

/-- The program's table, where the program's first variable lies. -/
def CR (W : World) : Prop := ∀ i : Nat, i < 16 → W.cell? ⟨0, i, none⟩ = some (.int .u32 (rowsL[i]! : Nat))
theorem CR.of {W w' : World} {n : Nat} (h : CR W) (hb : Below n W w') (hn : 0 < n) : CR w' := fun i hi => (hb.cell (p := ⟨0, i, none⟩) hn).trans (h i hi)

theorem crc_take (s : ByteArray) (k : Nat) (h : k < s.size) : crcL 4294967295 (s.data.toList.take (k + 1)) = crcR (crcL 4294967295 (s.data.toList.take k)) (s[k]).toNat := by
  rw [crcL_take (by simpa using h)]
  rfl

set_option maxHeartbeats 4000000 in
theorem impl_checkOf (s : ByteArray) (hs : s.size ≤ 9223372036854775807) (w : World) (hC : CR w) : Calls Tryd.prog 25 #[.string s] w fun e w' =>
    e = .returned (.int .u32 (crcT s : Nat)) ∧ w' = w := by
  go_enter Tryd.func25, Tryd.ntmps25
  go_wp2_with fail
  go_loop [3, 7] (fun c i => ∃ k : Nat, k ≤ s.size ∧ i = .int .i64 k ∧ c = .int .u32 (crcL 4294967295 (s.data.toList.take k) : Nat)) (fun _ i => s.size - (intOf i).toNat)
  case atStart => exact ⟨0, Nat.zero_le _, rfl, rfl⟩
  case round =>
    obtain ⟨k, hk, rfl, rfl⟩ := hrel
    have hc0 : crcL 4294967295 (s.data.toList.take k) < 4294967296 := crcL_lt (by omega)
    by_cases hlt : k < s.size
    · have q1 : (k : Int) < (s.size : Int) := by omega
      have q0 : (0 : Int) ≤ (k : Int) := by omega
      have HT : Hid (_ = _) := crc_take s k hlt
      obtain ⟨c, HC⟩ : ∃ c : Nat, Hid (c = crcL 4294967295 (s.data.toList.take k)) := ⟨_, rfl⟩
      rw [← HC.out] at hc0 ⊢
      obtain ⟨b, HB⟩ : ∃ b : Nat, Hid (b = (s[k]).toNat) := ⟨(s[k]).toNat, (rfl : (s[k]).toNat = _)⟩
      have hb : b < 256 := by have := HB.out; have := (s[k]).toNat_lt; omega
      have hB : ((s[k]).toNat : Int) = (b : Int) := by have := HB.out; omega
      obtain ⟨c1, HC1⟩ : ∃ c1 : Nat, Hid (c1 = c ^^^ b) := ⟨_, rfl⟩
      have hc1 : c1 < 4294967296 := by rw [HC1.out]; exact Nat.xor_lt_two_pow (n := 32) hc0 (by omega)
      have x1 : bits .xor .u32 (c : Int) (b : Int) = (c1 : Int) := by rw [HC1.out]; exact xoru c b hc0 (by omega)
      obtain ⟨i1, HI1⟩ : ∃ i1 : Nat, Hid (i1 = c1 % 16) := ⟨_, rfl⟩
      have hi1 : i1 < 16 := by rw [HI1.out]; omega
      have a1 : bits .and .u32 (c1 : Int) 15 = (i1 : Int) := by rw [HI1.out]; exact and15u c1 hc1
      have l1 := hC i1 hi1
      have hr1 : rowsL[i1]! < 4294967296 := rowsL_lt i1 hi1
      have hh1 : rowsL[i1]! ^^^ c1 / 16 = cstn 4 c1 := by rw [← half c1, ← HI1.out]
      generalize rowsL[i1]! = r1 at l1 hr1 hh1
      have y1 : bits .xor .u32 (r1 : Int) ((c1 : Int) / 16) = ((cstn 4 c1 : Nat) : Int) := by
        rw [← hh1, show (c1 : Int) / 16 = ((c1 / 16 : Nat) : Int) by omega]
        exact xoru _ _ hr1 (by omega)
      clear hh1
      obtain ⟨c2, HC2⟩ : ∃ c2 : Nat, Hid (c2 = cstn 4 c1) := ⟨_, rfl⟩
      have hc2 : c2 < 4294967296 := by rw [HC2.out]; exact cstn_lt hc1
      rw [← HC2.out] at y1
      obtain ⟨i2, HI2⟩ : ∃ i2 : Nat, Hid (i2 = c2 % 16) := ⟨_, rfl⟩
      have hi2 : i2 < 16 := by rw [HI2.out]; omega
      have a2 : bits .and .u32 (c2 : Int) 15 = (i2 : Int) := by rw [HI2.out]; exact and15u c2 hc2
      have l2 := hC i2 hi2
      have hr2 : rowsL[i2]! < 4294967296 := rowsL_lt i2 hi2
      have hh2 : rowsL[i2]! ^^^ c2 / 16 = cstn 4 c2 := by rw [← half c2, ← HI2.out]
      generalize rowsL[i2]! = r2 at l2 hr2 hh2
      have y2 : bits .xor .u32 (r2 : Int) ((c2 : Int) / 16) = ((cstn 4 c2 : Nat) : Int) := by
        rw [← hh2, show (c2 : Int) / 16 = ((c2 / 16 : Nat) : Int) by omega]
        exact xoru _ _ hr2 (by omega)
      clear hh2
      go_wp2_with fail
      go_round
      case rel => exact ⟨k + 1, by omega, by go_num, by rw [HT.out, ← HC.out, ← HB.out, ← eight, ← HC1.out, ← HC2.out]⟩
      case measure => simp [intOf]; omega
    · have q1 : ¬ (k : Int) < (s.size : Int) := by omega
      obtain rfl : k = s.size := by omega
      have e : crcL 4294967295 (s.data.toList.take s.size) = crcL 4294967295 s.data.toList := by rw [List.take_of_length_le (by simp)]
      rw [e] at hc0 ⊢
      have n1 : Hid (_ = _) := notu _ hc0
      clear e
      go_wp2_with fail
      go_ret
      exact ⟨ret_int n1.out, rfl⟩
end Go.Proofs.YtjkioadjclfmiaaDoor
