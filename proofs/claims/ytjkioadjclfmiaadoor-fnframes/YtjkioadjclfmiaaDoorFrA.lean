import Derived.Test.YtjkioadjclfmiaaDoorCrC
import Derived.BigQuiet
namespace Go.Proofs.YtjkioadjclfmiaaDoor
open Go.RowKit

/-- The first four bytes, as a number. -/
def num4 (a b c d : Nat) : Nat := a * 16777216 + b * 65536 + c * 256 + d

theorem oru (x y k : Nat) (hy : y < 2 ^ k) (h : x * 2 ^ k + y < 4294967296) : bits .or .u32 ((x * 2 ^ k : Nat) : Int) (y : Int) = ((x * 2 ^ k + y : Nat) : Int) := by
  rw [u32_or_nat _ _ (by omega) (by omega), Nat.mul_comm x, Nat.two_pow_add_eq_or_of_lt hy]
theorem or_four {a b c d : Nat} (ha : a < 256) (hb : b < 256) (hc : c < 256) (hd : d < 256) :
    bits .or .u32 (bits .or .u32 (bits .or .u32 ((a : Int) * 16777216) ((b : Int) * 65536)) ((c : Int) * 256)) (d : Int) = ((num4 a b c d : Nat) : Int) := by
  have e1 : bits .or .u32 ((a : Int) * 16777216) ((b : Int) * 65536) = (((a * 256 + b) * 65536 : Nat) : Int) := by
    have h := oru a (b * 65536) 24 (by omega) (by omega)
    rw [show ((a : Int) * 16777216) = ((a * 2 ^ 24 : Nat) : Int) by omega, show ((b : Int) * 65536) = ((b * 65536 : Nat) : Int) by omega, h]
    omega
  have e2 : bits .or .u32 (((a * 256 + b) * 65536 : Nat) : Int) ((c : Int) * 256) = (((a * 256 + b) * 256 + c) * 256 : Nat) := by
    have h := oru (a * 256 + b) (c * 256) 16 (by omega) (by omega)
    rw [show ((c : Int) * 256) = ((c * 256 : Nat) : Int) by omega]
    refine Eq.trans ?_ (h.trans ?_)
    · rfl
    · omega
  have e3 : bits .or .u32 ((((a * 256 + b) * 256 + c) * 256 : Nat) : Int) (d : Int) = ((num4 a b c d : Nat) : Int) := by
    have h := oru ((a * 256 + b) * 256 + c) d 8 (by omega) (by omega)
    refine Eq.trans ?_ (h.trans ?_)
    · rfl
    · unfold num4; omega
  rw [e1, e2, e3]

set_option maxHeartbeats 1000000 in
theorem impl_ofFourBytes (s : ByteArray) (hs : 4 ≤ s.size) (w : World) : Calls Tryd.prog 29 #[.string s] w fun e w' =>
    e = .returned (.int .u32 (num4 s[0].toNat s[1].toNat s[2].toNat s[3].toNat : Nat)) ∧ ∃ n, w' = w.drewN n := by
  have h0 : (0 : Int) < (s.size : Int) := by omega
  have h1 : (1 : Int) < (s.size : Int) := by omega
  have h2 : (2 : Int) < (s.size : Int) := by omega
  have h3 : (3 : Int) < (s.size : Int) := by omega
  obtain ⟨a, HA⟩ : ∃ a : Nat, Hid (a = (s[0]).toNat) := ⟨(s[0]).toNat, (rfl : (s[0]).toNat = _)⟩
  obtain ⟨b, HB⟩ : ∃ a : Nat, Hid (a = (s[1]).toNat) := ⟨(s[1]).toNat, (rfl : (s[1]).toNat = _)⟩
  obtain ⟨c, HC⟩ : ∃ a : Nat, Hid (a = (s[2]).toNat) := ⟨(s[2]).toNat, (rfl : (s[2]).toNat = _)⟩
  obtain ⟨d, HD⟩ : ∃ a : Nat, Hid (a = (s[3]).toNat) := ⟨(s[3]).toNat, (rfl : (s[3]).toNat = _)⟩
  have ha : a < 256 := by have := HA.out; have := (s[0]).toNat_lt; omega
  have hb : b < 256 := by have := HB.out; have := (s[1]).toNat_lt; omega
  have hc : c < 256 := by have := HC.out; have := (s[2]).toNat_lt; omega
  have hd : d < 256 := by have := HD.out; have := (s[3]).toNat_lt; omega
  rw [← HA.out, ← HB.out, ← HC.out, ← HD.out]
  have gA : ((s[0]).toNat : Int) = (a : Int) := by have := HA.out; omega
  have gB : ((s[1]).toNat : Int) = (b : Int) := by have := HB.out; omega
  have gC : ((s[2]).toNat : Int) = (c : Int) := by have := HC.out; omega
  have gD : ((s[3]).toNat : Int) = (d : Int) := by have := HD.out; omega
  go_enter Tryd.func29, Tryd.ntmps29
  go_wp2_with fail
  go_quiet (fail)
  go_wp2_with fail
  go_ret
  exact ⟨ret_int (or_four ha hb hc hd), _, rfl⟩
end Go.Proofs.YtjkioadjclfmiaaDoor
