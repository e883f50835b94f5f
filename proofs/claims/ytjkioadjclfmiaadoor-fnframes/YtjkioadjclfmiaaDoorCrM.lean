import Derived.Test.YtjkioadjclfmiaaDoorBase
import Derived.Laws.BitsAllLaws
namespace Go.Proofs.YtjkioadjclfmiaaDoor
open Go.RowKit

/-! ### CRC-32: one bit goes out, eight bits go out; the two forms of the table -/
def cst (c : Nat) : Nat := if c % 2 = 1 then c / 2 ^^^ 3988292384 else c / 2
def cstn : Nat → Nat → Nat
  | 0, c => c
  | n + 1, c => cstn n (cst c)
theorem cstn_add (m n c : Nat) : cstn (m + n) c = cstn n (cstn m c) := by
  induction m generalizing c with
  | zero => simp [cstn]
  | succ m ih => rw [Nat.succ_add]; exact ih _
theorem cstn_one (n c : Nat) : cstn (n + 1) c = cst (cstn n c) := by rw [cstn_add]; rfl
theorem xor_div2 (a b : Nat) : (a ^^^ b) / 2 = a / 2 ^^^ b / 2 := by
  have := Nat.xor_div_two_pow (a := a) (b := b) (n := 1)
  simpa using this
theorem xor_mod2 (a b : Nat) : (a ^^^ b) % 2 = (a + b) % 2 := by
  have := Nat.xor_mod_two_pow (a := a) (b := b) (n := 1)
  rw [Nat.pow_one] at this
  rw [this]
  have ha : a % 2 = 0 ∨ a % 2 = 1 := by omega
  have hb : b % 2 = 0 ∨ b % 2 = 1 := by omega
  rcases ha with ha | ha <;> rcases hb with hb | hb <;> rw [ha, hb] <;> simp <;> omega
theorem cst_xor (a b : Nat) : cst (a ^^^ b) = cst a ^^^ cst b := by
  unfold cst
  rw [xor_div2, xor_mod2]
  have ha : a % 2 = 0 ∨ a % 2 = 1 := by omega
  have hb : b % 2 = 0 ∨ b % 2 = 1 := by omega
  rcases ha with ha | ha <;> rcases hb with hb | hb
  · rw [if_neg (by omega), if_neg (by omega), if_neg (by omega)]
  · rw [if_pos (by omega), if_neg (by omega), if_pos (by omega), Nat.xor_assoc]
  · rw [if_pos (by omega), if_pos (by omega), if_neg (by omega), Nat.xor_assoc, Nat.xor_assoc, Nat.xor_comm (b / 2)]
  · rw [if_neg (by omega), if_pos (by omega), if_pos (by omega), Nat.xor_assoc (a / 2), ← Nat.xor_assoc 3988292384, Nat.xor_comm 3988292384 (b / 2), Nat.xor_assoc (b / 2), Nat.xor_self, Nat.xor_zero]
theorem cstn_xor (n a b : Nat) : cstn n (a ^^^ b) = cstn n a ^^^ cstn n b := by
  induction n generalizing a b with
  | zero => rfl
  | succ n ih => show cstn n (cst (a ^^^ b)) = _; rw [cst_xor, ih]; rfl
theorem cstn_high (n c : Nat) : cstn n (c * 2 ^ n) = c := by
  induction n generalizing c with
  | zero => simp [cstn]
  | succ n ih =>
    have e : cst (c * 2 ^ (n + 1)) = c * 2 ^ n := by
      unfold cst
      rw [Nat.pow_succ, ← Nat.mul_assoc, if_neg (by omega)]
      omega
    show cstn n (cst _) = c
    rw [e, ih]
theorem parts_xor (n c : Nat) : c = (c / 2 ^ n) * 2 ^ n ^^^ c % 2 ^ n := by
  rw [← Nat.shiftRight_eq_div_pow, ← Nat.shiftLeft_eq]
  apply Nat.eq_of_testBit_eq
  intro i
  simp only [Nat.testBit_xor, Nat.testBit_shiftLeft, Nat.testBit_shiftRight, Nat.testBit_mod_two_pow]
  by_cases h : n ≤ i
  · have e : n + (i - n) = i := by omega
    have e2 : ¬ i < n := by omega
    simp [h, e, e2]
  · have e2 : i < n := by omega
    simp [e2, h]
theorem cstn_parts (n c : Nat) : cstn n c = c / 2 ^ n ^^^ cstn n (c % 2 ^ n) := by
  conv => lhs; rw [parts_xor n c]
  rw [cstn_xor, cstn_high]
theorem cst_lt {c : Nat} (h : c < 4294967296) : cst c < 4294967296 := by
  unfold cst
  split
  · exact Nat.xor_lt_two_pow (n := 32) (by omega) (by omega)
  · omega
theorem cstn_lt {n c : Nat} (h : c < 4294967296) : cstn n c < 4294967296 := by
  induction n generalizing c with
  | zero => exact h
  | succ n ih => exact ih (cst_lt h)

/-- What a byte does to the sum. -/
def crcR (c b : Nat) : Nat := cstn 8 (c ^^^ b)
def crcL (c : Nat) (l : List UInt8) : Nat := l.foldl (fun c b => crcR c b.toNat) c
/-- The sum of a text. -/
def crcT (s : ByteArray) : Nat := 4294967295 - crcL 4294967295 s.data.toList
theorem crcR_lt {c b : Nat} (hc : c < 4294967296) (hb : b < 256) : crcR c b < 4294967296 := cstn_lt (Nat.xor_lt_two_pow (n := 32) hc (by omega))
theorem crcL_lt {c : Nat} {l : List UInt8} (hc : c < 4294967296) : crcL c l < 4294967296 := by
  induction l generalizing c with
  | nil => exact hc
  | cons b l ih => exact ih (crcR_lt hc b.toNat_lt)
theorem crcT_lt (s : ByteArray) : crcT s < 4294967296 := by unfold crcT; omega
theorem crcL_take {c k : Nat} {l : List UInt8} (h : k < l.length) : crcL c (l.take (k + 1)) = crcR (crcL c (l.take k)) (l[k]).toNat := by
  rw [List.take_succ_eq_append_getElem h, crcL, List.foldl_append]
  rfl

/-- The program's: four bits and four bits. -/
def rowsL : List Nat := [0, 498536548, 997073096, 651767980, 1994146192, 1802195444, 1303535960, 1342533948, 3988292384, 4027552580, 3604390888, 3412177804, 2607071920, 2262029012, 2685067896, 3183342108]
theorem rowsL_at : ∀ i, i < 16 → rowsL[i]! = cstn 4 i := by decide +kernel
theorem rowsL_lt : ∀ i, i < 16 → rowsL[i]! < 4294967296 := by decide +kernel
theorem half (c : Nat) : rowsL[c % 16]! ^^^ c / 16 = cstn 4 c := by
  rw [rowsL_at _ (Nat.mod_lt _ (by omega)), cstn_parts 4 c, Nat.xor_comm]
/-- The specification's: eight bits out of a table. -/
theorem whole (c b : Nat) (hb : b < 256) : c / 256 ^^^ cstn 8 (c % 256 ^^^ b) = crcR c b := by
  unfold crcR
  rw [cstn_parts 8 (c ^^^ b)]
  have e1 : (c ^^^ b) / 2 ^ 8 = c / 256 := by
    rw [Nat.xor_div_two_pow, Nat.div_eq_of_lt (show b < 2 ^ 8 from hb), Nat.xor_zero]
  have e2 : (c ^^^ b) % 2 ^ 8 = c % 256 ^^^ b := by
    rw [Nat.xor_mod_two_pow, Nat.mod_eq_of_lt (show b < 2 ^ 8 from hb)]
  rw [e1, e2]
theorem eight (c b : Nat) : cstn 4 (cstn 4 (c ^^^ b)) = crcR c b := (cstn_add 4 4 _).symm

/-! ### How the walk spells these -/
theorem and15 (a : Nat) : a &&& 15 = a % 16 := Nat.and_two_pow_sub_one_eq_mod a 4
theorem and15u (a : Nat) (h : a < 4294967296) : bits .and .u32 (a : Int) 15 = ((a % 16 : Nat) : Int) := by
  rw [show (15 : Int) = ((15 : Nat) : Int) from rfl, u32_and_nat a 15 h (by omega), and15]
theorem xoru (a b : Nat) (ha : a < 4294967296) (hb : b < 4294967296) : bits .xor .u32 (a : Int) (b : Int) = ((a ^^^ b : Nat) : Int) := u32_xor_nat a b ha hb
theorem notu (a : Nat) (h : a < 4294967296) : bits .xor .u32 4294967295 (a : Int) = ((4294967295 - a : Nat) : Int) := by
  rw [show (4294967295 : Int) = ((4294967295 : Nat) : Int) from rfl, u32_xor_nat _ a (by omega) h]
  have e := congrArg BitVec.toNat (BitVec.allOnes_xor (x := BitVec.ofNat 32 a))
  rw [BitVec.toNat_xor, BitVec.toNat_not, BitVec.toNat_allOnes, BitVec.toNat_ofNat, Nat.mod_eq_of_lt h] at e
  exact congrArg _ e
end Go.Proofs.YtjkioadjclfmiaaDoor
