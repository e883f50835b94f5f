import Derived.Test.YtjkioadjclfmiaaDoorPlaceB
import Derived.Test.YtjkioadjclfmiaaDoorStrs
namespace Go.Proofs.YtjkioadjclfmiaaDoor
open Go.RowKit

/-- A number from 0 to 99 in decimal. -/
def decS (i : Nat) : ByteArray := if i < 10 then ⟨#[UInt8.ofNat (48 + i)]⟩ else ⟨#[UInt8.ofNat (48 + i / 10), UInt8.ofNat (48 + i % 10)]⟩

set_option maxRecDepth 100000 in
theorem small1 : ∀ i, i < 10 → ByteArray.extract ⟨#[48, 49, 50, 51, 52, 53, 54, 55, 56, 57, 97, 98, 99, 100, 101, 102, 103, 104, 105, 106, 107, 108, 109, 110, 111, 112, 113, 114, 115, 116, 117, 118, 119, 120, 121, 122]⟩ i (i + 1) = decS i := by decide +kernel
set_option maxRecDepth 100000 in
theorem small2 : ∀ i, i < 100 → ¬ i < 10 → ByteArray.extract ⟨#[48, 48, 48, 49, 48, 50, 48, 51, 48, 52, 48, 53, 48, 54, 48, 55, 48, 56, 48, 57, 49, 48, 49, 49, 49, 50, 49, 51, 49, 52, 49, 53, 49, 54, 49, 55, 49, 56, 49, 57, 50, 48, 50, 49, 50, 50, 50, 51, 50, 52, 50, 53, 50, 54, 50, 55, 50, 56, 50, 57, 51, 48, 51, 49, 51, 50, 51, 51, 51, 52, 51, 53, 51, 54, 51, 55, 51, 56, 51, 57, 52, 48, 52, 49, 52, 50, 52, 51, 52, 52, 52, 53, 52, 54, 52, 55, 52, 56, 52, 57, 53, 48, 53, 49, 53, 50, 53, 51, 53, 52, 53, 53, 53, 54, 53, 55, 53, 56, 53, 57, 54, 48, 54, 49, 54, 50, 54, 51, 54, 52, 54, 53, 54, 54, 54, 55, 54, 56, 54, 57, 55, 48, 55, 49, 55, 50, 55, 51, 55, 52, 55, 53, 55, 54, 55, 55, 55, 56, 55, 57, 56, 48, 56, 49, 56, 50, 56, 51, 56, 52, 56, 53, 56, 54, 56, 55, 56, 56, 56, 57, 57, 48, 57, 49, 57, 50, 57, 51, 57, 52, 57, 53, 57, 54, 57, 55, 57, 56, 57, 57]⟩ (i * 2) (i * 2 + 2) = decS i := by decide +kernel
theorem dec1 : ∀ i, i < 10 → (⟨#[48 + UInt8.ofNat i]⟩ : ByteArray) = decS i := by decide +kernel
theorem dec2 : ∀ q, q < 10 → ∀ r, r < 10 → ¬ 10 * q + r < 10 → (⟨#[48 + UInt8.ofNat q, 48 + UInt8.ofNat r]⟩ : ByteArray) = decS (10 * q + r) := by decide +kernel

end Go.Proofs.YtjkioadjclfmiaaDoor
