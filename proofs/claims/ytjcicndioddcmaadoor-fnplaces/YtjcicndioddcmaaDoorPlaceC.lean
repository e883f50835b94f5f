import Derived.Test.YtjcicndioddcmaaDoorPlaceB
import Derived.Test.YtjcicndioddcmaaDoorStrs
namespace Go.Proofs.YtjcicndioddcmaaDoor
open Go.RowKit

/-- A number from 0 to 99 in decimal. -/
def decS (i : Nat) : ByteArray := if i < 10 then ⟨#[UInt8.ofNat (48 + i)]⟩ else ⟨#[UInt8.ofNat (48 + i / 10), UInt8.ofNat (48 + i % 10)]⟩

set_option maxRecDepth 100000 in
theorem small1 : ∀ i, i < 10 → ByteArray.extract ⟨#[48, 49, 50, 51, 52, 53, 54, 55, 56, 57, 97, 98, 99, 100, 101, 102, 103, 104, 105, 106, 107, 108, 109, 110, 111, 112, 113, 114, 115, 116, 117, 118, 119, 120, 121, 122]⟩ i (i + 1) = decS i := by decide +kernel
set_option maxRecDepth 100000 in
theorem small2 : ∀ i, i < 100 → ¬ i < 10 → ByteArray.extract ⟨#[48, 48, 48, 49, 48, 50, 48, 51, 48, 52, 48, 53, 48, 54, 48, 55, 48, 56, 48, 57, 49, 48, 49, 49, 49, 50, 49, 51, 49, 52, 49, 53, 49, 54, 49, 55, 49, 56, 49, 57, 50, 48, 50, 49, 50, 50, 50, 51, 50, 52, 50, 53, 50, 54, 50, 55, 50, 56, 50, 57, 51, 48, 51, 49, 51, 50, 51, 51, 51, 52, 51, 53, 51, 54, 51, 55, 51, 56, 51, 57, 52, 48, 52, 49, 52, 50, 52, 51, 52, 52, 52, 53, 52, 54, 52, 55, 52, 56, 52, 57, 53, 48, 53, 49, 53, 50, 53, 51, 53, 52, 53, 53, 53, 54, 53, 55, 53, 56, 53, 57, 54, 48, 54, 49, 54, 50, 54, 51, 54, 52, 54, 53, 54, 54, 54, 55, 54, 56, 54, 57, 55, 48, 55, 49, 55, 50, 55, 51, 55, 52, 55, 53, 55, 54, 55, 55, 55, 56, 55, 57, 56, 48, 56, 49, 56, 50, 56, 51, 56, 52, 56, 53, 56, 54, 56, 55, 56, 56, 56, 57, 57, 48, 57, 49, 57, 50, 57, 51, 57, 52, 57, 53, 57, 54, 57, 55, 57, 56, 57, 57]⟩ (i * 2) (i * 2 + 2) = decS i := by decide +kernel
theorem dec1 : ∀ i, i < 10 → (⟨#[48 + UInt8.ofNat i]⟩ : ByteArray) = decS i := by decide +kernel
theorem dec2 : ∀ q, q < 10 → ∀ r, r < 10 → ¬ 10 * q + r < 10 → (⟨#[48 + UInt8.ofNat q, 48 + UInt8.ofNat r]⟩ : ByteArray) = decS (10 * q + r) := by decide +kernel

set_option maxRecDepth 100000 in
set_option maxHeartbeats 1000000 in
theorem lib_small (i : Nat) (hi : i < 100) (w : World) : Calls Tryd.prog 69 #[.int .i64 i] w fun e w' =>
    e = .returned (.string (decS i)) ∧ w' = w := by
  have h0 : (0 : Int) ≤ (i : Int) := by omega
  by_cases h : i < 10
  · have h1 : (i : Int) < 10 := by omega
    have h2 : (i : Int) + 1 ≤ 36 := by omega
    have h3 : (i : Int) ≤ (i : Int) + 1 := by omega
    go_enter Tryd.func69, Tryd.ntmps69
    go_wp2
    go_ret
    exact ⟨ret_str (small1 i h), rfl⟩
  · have h1 : ¬ (i : Int) < 10 := by omega
    have h2 : (i : Int) * 2 + 2 ≤ 200 := by omega
    have h3 : (i : Int) * 2 ≤ (i : Int) * 2 + 2 := by omega
    have h4 : (0 : Int) ≤ (i : Int) * 2 := by omega
    go_enter Tryd.func69, Tryd.ntmps69
    go_wp2
    go_ret
    exact ⟨ret_str (small2 i hi h), rfl⟩

set_option maxRecDepth 100000 in
set_option maxHeartbeats 1000000 in
theorem lib_iFormatInt (i : Nat) (hi : i < 100) (w : World) : Calls Tryd.prog 60 #[.int .i64 i, .int .i64 10] w fun e w' =>
    e = .returned (.string (decS i)) ∧ w' = w := by
  have h0 : (0 : Int) ≤ (i : Int) := by omega
  have h1 : (i : Int) < 100 := by omega
  go_enter Tryd.func60, Tryd.ntmps60
  go_wp2_with (first
    | (go_at_call 69; refine (lib_small i hi _).mono ?_; rintro e w1 ⟨rfl, rfl⟩))
  go_ret
  exact ⟨rfl, rfl⟩
set_option maxHeartbeats 1000000 in
theorem lib_FormatInt (i : Nat) (hi : i < 100) (w : World) : Calls Tryd.prog 40 #[.int .i64 i, .int .i64 10] w fun e w' =>
    e = .returned (.string (decS i)) ∧ w' = w := by
  go_enter Tryd.func40, Tryd.ntmps40
  go_wp2_with (first
    | (go_at_call 60; refine (lib_iFormatInt i hi _).mono ?_; rintro e w1 ⟨rfl, rfl⟩))
  go_ret
  exact ⟨rfl, rfl⟩

set_option maxHeartbeats 2000000 in
theorem spec_l1Dec (i : Nat) (hi : i < 100) (w : World) : Calls Tryd.prog 45 #[.int .i64 i] w fun e w' =>
    e = .returned (.string (decS i)) ∧ Below w.heap.size w w' := by
  have hc0 := fun W v => conv1 W v
  by_cases h : i < 10
  · have h1 : ¬ (i : Int) < 0 := by omega
    have h2 : ¬ 10 ≤ (i : Int) := by omega
    go_enter Tryd.func45, Tryd.ntmps45
    go_wp2
    refine wp_loop_rounds 4 ?_
    rw [rounds_succ]
    go_wp2
    go_ret
    exact ⟨ret_str (by rw [cat_nil]; exact dec1 i h), by go_grown⟩
  · obtain ⟨q, r, hq, hr, rfl⟩ : ∃ q r, q < 10 ∧ r < 10 ∧ i = 10 * q + r := ⟨i / 10, i % 10, by omega, by omega, by omega⟩
    have hc2 := fun W o v => conv2 W o v
    have e1 : ((10 * q + r : Nat) : Int) % 10 = (r : Int) := by omega
    have e2 : ((10 * q + r : Nat) : Int) / 10 = (q : Int) := by omega
    obtain ⟨n, hn⟩ : ∃ n : Int, n = ((10 * q + r : Nat) : Int) := ⟨_, rfl⟩
    rw [← hn] at e1 e2
    have h1 : ¬ n < 0 := by omega
    have h2 : 10 ≤ n := by omega
    have h3 : n ≤ 99 := by omega
    have h4 : ¬ 10 ≤ (q : Int) := by omega
    have HD : Hid (¬ 10 * q + r < 10) := h
    rw [← hn]
    clear hn hi h
    go_enter Tryd.func45, Tryd.ntmps45
    go_wp2
    refine wp_loop_rounds 4 ?_
    rw [rounds_succ]
    go_wp2
    rw [rounds_succ]
    go_wp2
    go_ret
    exact ⟨ret_str (by rw [cat_nil, cat_one]; exact dec2 q hq r hr HD.out), by go_grown⟩
end Go.Proofs.YtjcicndioddcmaaDoor
