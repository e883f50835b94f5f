import Derived.Test.YtjkioadjclfmiaaDoorPlaceC
import Derived.Deep.RegionHeld3
namespace Go.Proofs.YtjkioadjclfmiaaDoor
open Go.RowKit

def fx (b : Bool) : ByteArray := if b then ⟨#[36]⟩ else ⟨#[]⟩
theorem fx_size (b : Bool) : (fx b).size ≤ 1 := by cases b <;> decide
theorem colT_size (n : Int) : (colT n).size ≤ 2 := by
  unfold colT
  split
  · exact Nat.le_succ 1
  · split
    · exact Nat.le_refl 2
    · exact Nat.zero_le 2
theorem decS_size (i : Nat) : (decS i).size ≤ 2 := by
  unfold decS
  split
  · exact Nat.le_succ 1
  · exact Nat.le_refl 2
def placeT (c : Int) (i : Nat) (x y : Bool) : ByteArray := fx x ++ colT c ++ fx y ++ decS i

theorem nil_cat (x : ByteArray) : (⟨#[]⟩ : ByteArray) ++ x = x := by apply ByteArray.ext; simp
end Go.Proofs.YtjkioadjclfmiaaDoor
