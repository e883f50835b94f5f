import Derived.Test.YtelehnemlejcoaaGreatDoorCvA
import Derived.Test.YtelehnemlejcoaaGreatDoorGaa
import Derived.Test.YtelehnemlejcoaaGreatDoorGad
import Derived.Test.YtelehnemlejcoaaGreatDoorGbg
set_option linter.unusedSimpArgs false
set_option linter.unusedVariables false
namespace Go.Proofs.YtelehnemlejcoaaGreatDoor
open Go.RowKit
def ClRow (W : World) (A : Option Addr) (n : Nat) (C R : Nat → Int) (S : Nat → ByteArray) : Prop :=
  n ≤ maxLen ∧ ∀ i, i < n → ∃ b o, A = some ⟨b, o, none⟩ ∧ b < W.heap.size ∧ W.cell? ⟨b, o + i * 3, none⟩ = some (.int .i64 (C i)) ∧ W.cell? ⟨b, o + i * 3 + 1, none⟩ = some (.int .i64 (R i)) ∧
    W.cell? ⟨b, o + i * 3 + 2, none⟩ = some (.string (S i)) ∧ (S i).size ≤ maxLen
theorem ClRow.below {W W' : World} {A : Option Addr} {n : Nat} {C R : Nat → Int} {S : Nat → ByteArray} (h : ClRow W A n C R S) (hb : Below W.heap.size W W') : ClRow W' A n C R S :=
  ⟨h.1, fun i hi => by
    obtain ⟨b, o, e, hl, c0, c1, c2, hs⟩ := h.2 i hi
    exact ⟨b, o, e, Nat.lt_of_lt_of_le hl hb.size, (hb.cell (p := ⟨b, _, none⟩) hl).trans c0, (hb.cell (p := ⟨b, _, none⟩) hl).trans c1, (hb.cell (p := ⟨b, _, none⟩) hl).trans c2, hs⟩⟩
end Go.Proofs.YtelehnemlejcoaaGreatDoor
namespace Go.Proofs.YtelehnemlejcoaaGreatDoor
open Go.RowKit
theorem all_noC {f : Nat → Bool} {n k : Nat} (hk : k < n) (h : f k = false) : (List.range n).all f = false := by
  rw [List.all_eq_false]
  exact ⟨k, List.mem_range.2 hk, by simp [h]⟩
theorem all_yesC {f : Nat → Bool} {n : Nat} (h : ∀ i, i < n → f i = true) : (List.range n).all f = true := by
  rw [List.all_eq_true]
  exact fun i hi => h i (List.mem_range.1 hi)
end Go.Proofs.YtelehnemlejcoaaGreatDoor
namespace Go.Proofs.YtelehnemlejcoaaGreatDoor
open Go.RowKit
def ownB (s : ByteArray) : Bool := match inF s with
  | some t => t.toList == s.toList
  | none => false
set_option maxRecDepth 100000 in
set_option maxHeartbeats 1000000 in
theorem impl_isOwnSource (s : ByteArray) (w : World) (hs : s.size ≤ maxLen) (hg : GI w) : Calls Tryz.prog 46 #[.string s] w fun e w' => e = .returned (.bool (ownB s)) ∧ Below w.heap.size w w' := by
  have HG : Hid (GI w) := hg
  clear hg
  cases ho : inF s with
  | none =>
    have HO : Hid (inF s = none) := ho
    have HB : Hid (ownB s = false) := by show _ = _; unfold ownB; rw [ho]
    clear ho
    go_enter Tryz.func46, Tryz.ntmps46
    go_wp2_with fail
    refine (impl_InputOf s w hs HG.out).mono ?_
    rintro e u1 ⟨he, hb⟩
    rw [HO.out] at he
    obtain rfl : e = .returned (.tuple #[.string ⟨#[]⟩, .bool false]) := he
    go_wp2_with fail
    go_ret
    exact ⟨ret_bool HB.out.symm, hb⟩
  | some t =>
    have HO : Hid (inF s = some t) := ho
    have HB : Hid (ownB s = (t.toList == s.toList)) := by show _ = _; unfold ownB; rw [ho]
    clear ho
    go_enter Tryz.func46, Tryz.ntmps46
    go_wp2_with fail
    refine (impl_InputOf s w hs HG.out).mono ?_
    rintro e u1 ⟨he, hb⟩
    rw [HO.out] at he
    obtain rfl : e = .returned (.tuple #[.string t, .bool true]) := he
    go_wp2_with fail
    go_ret
    exact ⟨ret_bool HB.out.symm, hb⟩
end Go.Proofs.YtelehnemlejcoaaGreatDoor
