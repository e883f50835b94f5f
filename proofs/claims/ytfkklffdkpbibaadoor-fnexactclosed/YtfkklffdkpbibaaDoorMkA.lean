import Derived.Test.YtfkklffdkpbibaaDoorFnB
import Derived.Laws.BytesString
namespace Go.Proofs.YtfkklffdkpbibaaDoor
open Go.RowKit
set_option linter.unusedSimpArgs false

theorem cat_nil (x : ByteArray) : x ++ (⟨#[]⟩ : ByteArray) = x := by apply ByteArray.ext; simp
theorem cat_one (x y : UInt8) : (⟨#[x]⟩ : ByteArray) ++ (⟨#[y]⟩ : ByteArray) = ⟨#[x, y]⟩ := by apply ByteArray.ext; simp

theorem conv0 (W : World) (b : Nat) (v : Int) (hv : W.cell? ⟨b, 0, none⟩ = some (.int .u8 v)) :
    (convert 90 9 (.slice (some ⟨b, 0, none⟩) 1 1)).run Tryd.prog W = .ok (.string ⟨#[UInt8.ofNat v.toNat]⟩) W := by
  rw [run_convert_bytes_string W 90 9 5 (some ⟨b, 0, none⟩) 1 1 Tryd.underlying90 Tryd.underlying5 Tryd.underlying9]
  have hl := run_loadCells_list (P := Tryd.prog) W ⟨b, 0, none⟩ [.int .u8 v] (fun j x hj => by
    match j, hj with
    | 0, hj => simp at hj; simpa [Addr.add, ← hj] using hv)
  rw [run_bytesToString W ⟨b, 0, none⟩ 1 1 [v] (by simpa using hl)]
  rfl
theorem conv1 (W : World) (v : Int) : (convert 90 9 (.slice (some ⟨W.heap.size, 0, none⟩) 1 1)).run Tryd.prog (W.alloc (.cells #[.int .u8 v] 5)) =
    .ok (.string ⟨#[UInt8.ofNat v.toNat]⟩) (W.alloc (.cells #[.int .u8 v] 5)) := conv0 _ _ v (by simp)

set_option maxRecDepth 100000 in
set_option maxHeartbeats 2000000 in
theorem laws_markText (k : Int) (w : World) (h0 : 0 ≤ k) (h1 : k ≤ 1099511627776000) : Calls Tryd.prog 39 #[.int .i64 k] w fun e w' => ∃ s, e = .returned (.string s) ∧ Below w.heap.size w w' := by
  by_cases hz : k ≤ 0
  · go_enter Tryd.func39, Tryd.ntmps39
    go_wp2_with fail
    go_ret
    exact ⟨_, rfl, by go_grown⟩
  go_enter Tryd.func39, Tryd.ntmps39
  go_wp2_with fail
  go_loopw [0, 3] (fun q o wr => ∃ (m : Nat) (s : ByteArray), q = .int .i64 m ∧ o = .string s ∧ (s.size : Int) + m ≤ k ∧ Below w.heap.size w wr) (fun q _ _ => (intOf q).toNat)
  case atStart => exact ⟨k.toNat, ⟨#[]⟩, by congr 1; omega, rfl, by show (0 : Int) + _ ≤ _; omega, Below.refl _ _⟩
  case round =>
    obtain ⟨m, s, rfl, rfl, hsm, hbel⟩ := hrel
    have hcv := @conv1
    by_cases hm : (m : Int) ≤ 0
    · have hs1 : ¬ 9223372036854775807 < 1 + s.size := by omega
      go_wp2_with fail
      go_ret
      exact ⟨_, rfl, hbel⟩
    · have hp : 0 < (m : Int) := by omega
      have hs1 : ¬ 9223372036854775807 < 1 + s.size := by omega
      go_wp2_with fail
      all_goals
        go_roundw
        case rel => exact ⟨m / 10, _, by congr 1, rfl, by rw [ByteArray.size_append]; show ((1 + s.size : Nat) : Int) + ((m / 10 : Nat) : Int) ≤ k; omega, by have hbs := hbel.size; go_grown⟩
        case measure => simp [intOf]; omega

/-! ### A row of nodes of the call's own, and what marking it leaves as it was -/
structure Mid (B0 B1 : Nat) (w W : World) : Prop where
  os : W.os = w.os
  tape : W.tape = w.tape
  output : W.output = w.output
  size : w.heap.size ≤ W.heap.size
  block : ∀ k, k < w.heap.size → k < B0 ∨ B1 ≤ k → W.heap[k]? = w.heap[k]?
theorem Mid.refl (B0 B1 : Nat) (w : World) : Mid B0 B1 w w := ⟨rfl, rfl, rfl, Nat.le_refl _, fun _ _ _ => rfl⟩
theorem Mid.below {B0 B1 : Nat} {w W W' : World} (h : Mid B0 B1 w W) (hb : Below W.heap.size W W') : Mid B0 B1 w W' :=
  ⟨hb.os.trans h.os, hb.tape.trans h.tape, hb.output.trans h.output, Nat.le_trans h.size hb.size, fun k hk hr => (hb.block k (Nat.lt_of_lt_of_le hk h.size)).trans (h.block k hk hr)⟩
theorem Mid.set {B0 B1 : Nat} {w W : World} (h : Mid B0 B1 w W) {a : Addr} (u : Value) (h0 : B0 ≤ a.block) (h1 : a.block < B1) : Mid B0 B1 w (W.setCell a u) :=
  ⟨h.os, h.tape, h.output, by simpa using h.size, fun k hk hr => by rw [Below.heap_setCell _ _ _ _ (by omega)]; exact h.block k hk hr⟩
end Go.Proofs.YtfkklffdkpbibaaDoor
