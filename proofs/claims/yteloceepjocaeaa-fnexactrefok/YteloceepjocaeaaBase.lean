import Derived.Test.YteloceepjocaeaaRows
import Derived.WalkKit
import Derived.ProofKit
import Derived.OpenShut
import Derived.ShutString
import Derived.ChangeOld
import Derived.Below
import Derived.Handy
import Derived.WalkLawsBesides
import Derived.Lib.SmallJoins
namespace Go.Proofs.Yteloceepjocaeaa
open Go.RowKit

theorem ret_bool {a b : Bool} (h : a = b) : Ending.returned (.bool a) = .returned (.bool b) := by rw [h]
theorem ret_int {k : IntKind} {a b : Int} (h : a = b) : Ending.returned (.int k a) = .returned (.int k b) := by rw [h]
theorem ret_str {a b : ByteArray} (h : a = b) : Ending.returned (.string a) = .returned (.string b) := by rw [h]
theorem laidOut : laidOutB Try.prog = true := by kernel_rfl
theorem ownK : ownKnob Try.prog.godebug = none := by kernel_rfl

/-- BEHIND A CALL THAT MAKES MEMORY AND TURNS NOTHING OLD: what lies below 'w.heap.size + n' reads as ahead of it; the frame of the whole. -/
theorem bkeep {w W w1 : World} (n : Nat) (h0 : Below w.heap.size w W) (hW : w.heap.size + n ≤ W.heap.size) (hb : Below W.heap.size W w1) :
    (∀ b o, b < w.heap.size + n → w1.cell? ⟨b, o, none⟩ = W.cell? ⟨b, o, none⟩) ∧ (∀ b o, b < w.heap.size + n → w1.frozen? ⟨b, o, none⟩ = W.frozen? ⟨b, o, none⟩) ∧
      w.heap.size + n ≤ w1.heap.size ∧ Below w.heap.size w w1 :=
  ⟨fun b o h => hb.cell (p := ⟨b, o, none⟩) (Nat.lt_of_lt_of_le h hW), fun b o h => hb.frozen (p := ⟨b, o, none⟩) (Nat.lt_of_lt_of_le h hW), Nat.le_trans hW hb.size,
    h0.trans (hb.mono (Nat.le_trans (Nat.le_add_right _ _) hW))⟩

/-- The same at one to six blocks of the call's own, the sizes as the walk asks for them; and of all that lay there at the call. -/
theorem bk1 {w W w1 : World} (h0 : Below w.heap.size w W) (hW : w.heap.size + 1 ≤ W.heap.size) (hb : Below W.heap.size W w1) :
    (∀ b o, b < w.heap.size + 1 → w1.cell? ⟨b, o, none⟩ = W.cell? ⟨b, o, none⟩) ∧ (∀ b o, b < w.heap.size + 1 → w1.frozen? ⟨b, o, none⟩ = W.frozen? ⟨b, o, none⟩) ∧
      (∀ b o, b < W.heap.size → w1.cell? ⟨b, o, none⟩ = W.cell? ⟨b, o, none⟩) ∧ (∀ b o, b < W.heap.size → w1.frozen? ⟨b, o, none⟩ = W.frozen? ⟨b, o, none⟩) ∧
      w.heap.size + 1 ≤ w1.heap.size ∧ Below w.heap.size w w1 ∧ w.heap.size < w1.heap.size := by
  obtain ⟨hc, hf, hz, hk⟩ := bkeep 1 h0 hW hb
  exact ⟨hc, hf, fun b o h => hb.cell (p := ⟨b, o, none⟩) h, fun b o h => hb.frozen (p := ⟨b, o, none⟩) h, hz, hk, by omega⟩
theorem bk2 {w W w1 : World} (h0 : Below w.heap.size w W) (hW : w.heap.size + 2 ≤ W.heap.size) (hb : Below W.heap.size W w1) :
    (∀ b o, b < w.heap.size + 2 → w1.cell? ⟨b, o, none⟩ = W.cell? ⟨b, o, none⟩) ∧ (∀ b o, b < w.heap.size + 2 → w1.frozen? ⟨b, o, none⟩ = W.frozen? ⟨b, o, none⟩) ∧
      (∀ b o, b < W.heap.size → w1.cell? ⟨b, o, none⟩ = W.cell? ⟨b, o, none⟩) ∧ (∀ b o, b < W.heap.size → w1.frozen? ⟨b, o, none⟩ = W.frozen? ⟨b, o, none⟩) ∧
      w.heap.size + 2 ≤ w1.heap.size ∧ Below w.heap.size w w1 ∧ w.heap.size < w1.heap.size ∧ w.heap.size + 1 < w1.heap.size := by
  obtain ⟨hc, hf, hz, hk⟩ := bkeep 2 h0 hW hb
  exact ⟨hc, hf, fun b o h => hb.cell (p := ⟨b, o, none⟩) h, fun b o h => hb.frozen (p := ⟨b, o, none⟩) h, hz, hk, by omega, by omega⟩
theorem bk3 {w W w1 : World} (h0 : Below w.heap.size w W) (hW : w.heap.size + 3 ≤ W.heap.size) (hb : Below W.heap.size W w1) :
    (∀ b o, b < w.heap.size + 3 → w1.cell? ⟨b, o, none⟩ = W.cell? ⟨b, o, none⟩) ∧ (∀ b o, b < w.heap.size + 3 → w1.frozen? ⟨b, o, none⟩ = W.frozen? ⟨b, o, none⟩) ∧
      (∀ b o, b < W.heap.size → w1.cell? ⟨b, o, none⟩ = W.cell? ⟨b, o, none⟩) ∧ (∀ b o, b < W.heap.size → w1.frozen? ⟨b, o, none⟩ = W.frozen? ⟨b, o, none⟩) ∧
      w.heap.size + 3 ≤ w1.heap.size ∧ Below w.heap.size w w1 ∧ w.heap.size < w1.heap.size ∧ w.heap.size + 1 < w1.heap.size ∧ w.heap.size + 1 + 1 < w1.heap.size := by
  obtain ⟨hc, hf, hz, hk⟩ := bkeep 3 h0 hW hb
  exact ⟨hc, hf, fun b o h => hb.cell (p := ⟨b, o, none⟩) h, fun b o h => hb.frozen (p := ⟨b, o, none⟩) h, hz, hk, by omega, by omega, by omega⟩
theorem bk4 {w W w1 : World} (h0 : Below w.heap.size w W) (hW : w.heap.size + 4 ≤ W.heap.size) (hb : Below W.heap.size W w1) :
    (∀ b o, b < w.heap.size + 4 → w1.cell? ⟨b, o, none⟩ = W.cell? ⟨b, o, none⟩) ∧ (∀ b o, b < w.heap.size + 4 → w1.frozen? ⟨b, o, none⟩ = W.frozen? ⟨b, o, none⟩) ∧
      (∀ b o, b < W.heap.size → w1.cell? ⟨b, o, none⟩ = W.cell? ⟨b, o, none⟩) ∧ (∀ b o, b < W.heap.size → w1.frozen? ⟨b, o, none⟩ = W.frozen? ⟨b, o, none⟩) ∧
      w.heap.size + 4 ≤ w1.heap.size ∧ Below w.heap.size w w1 ∧ w.heap.size < w1.heap.size ∧ w.heap.size + 1 < w1.heap.size ∧ w.heap.size + 1 + 1 < w1.heap.size ∧ w.heap.size + 1 + 1 + 1 < w1.heap.size := by
  obtain ⟨hc, hf, hz, hk⟩ := bkeep 4 h0 hW hb
  exact ⟨hc, hf, fun b o h => hb.cell (p := ⟨b, o, none⟩) h, fun b o h => hb.frozen (p := ⟨b, o, none⟩) h, hz, hk, by omega, by omega, by omega, by omega⟩
theorem bk5 {w W w1 : World} (h0 : Below w.heap.size w W) (hW : w.heap.size + 5 ≤ W.heap.size) (hb : Below W.heap.size W w1) :
    (∀ b o, b < w.heap.size + 5 → w1.cell? ⟨b, o, none⟩ = W.cell? ⟨b, o, none⟩) ∧ (∀ b o, b < w.heap.size + 5 → w1.frozen? ⟨b, o, none⟩ = W.frozen? ⟨b, o, none⟩) ∧
      (∀ b o, b < W.heap.size → w1.cell? ⟨b, o, none⟩ = W.cell? ⟨b, o, none⟩) ∧ (∀ b o, b < W.heap.size → w1.frozen? ⟨b, o, none⟩ = W.frozen? ⟨b, o, none⟩) ∧
      w.heap.size + 5 ≤ w1.heap.size ∧ Below w.heap.size w w1 ∧ w.heap.size < w1.heap.size ∧ w.heap.size + 1 < w1.heap.size ∧ w.heap.size + 1 + 1 < w1.heap.size ∧ w.heap.size + 1 + 1 + 1 < w1.heap.size ∧ w.heap.size + 1 + 1 + 1 + 1 < w1.heap.size := by
  obtain ⟨hc, hf, hz, hk⟩ := bkeep 5 h0 hW hb
  exact ⟨hc, hf, fun b o h => hb.cell (p := ⟨b, o, none⟩) h, fun b o h => hb.frozen (p := ⟨b, o, none⟩) h, hz, hk, by omega, by omega, by omega, by omega, by omega⟩
theorem bk6 {w W w1 : World} (h0 : Below w.heap.size w W) (hW : w.heap.size + 6 ≤ W.heap.size) (hb : Below W.heap.size W w1) :
    (∀ b o, b < w.heap.size + 6 → w1.cell? ⟨b, o, none⟩ = W.cell? ⟨b, o, none⟩) ∧ (∀ b o, b < w.heap.size + 6 → w1.frozen? ⟨b, o, none⟩ = W.frozen? ⟨b, o, none⟩) ∧
      (∀ b o, b < W.heap.size → w1.cell? ⟨b, o, none⟩ = W.cell? ⟨b, o, none⟩) ∧ (∀ b o, b < W.heap.size → w1.frozen? ⟨b, o, none⟩ = W.frozen? ⟨b, o, none⟩) ∧
      w.heap.size + 6 ≤ w1.heap.size ∧ Below w.heap.size w w1 ∧ w.heap.size < w1.heap.size ∧ w.heap.size + 1 < w1.heap.size ∧ w.heap.size + 1 + 1 < w1.heap.size ∧ w.heap.size + 1 + 1 + 1 < w1.heap.size ∧ w.heap.size + 1 + 1 + 1 + 1 < w1.heap.size ∧ w.heap.size + 1 + 1 + 1 + 1 + 1 < w1.heap.size := by
  obtain ⟨hc, hf, hz, hk⟩ := bkeep 6 h0 hW hb
  exact ⟨hc, hf, fun b o h => hb.cell (p := ⟨b, o, none⟩) h, fun b o h => hb.frozen (p := ⟨b, o, none⟩) h, hz, hk, by omega, by omega, by omega, by omega, by omega, by omega⟩
end Go.Proofs.Yteloceepjocaeaa
