import Derived.Test.YtbkklapkpiogoaaGreatDoorMsB
namespace Go.Proofs.YtbkklapkpiogoaaGreatDoor
open Go.RowKit
set_option linter.unusedSimpArgs false
set_option linter.unusedVariables false

set_option maxRecDepth 100000 in
set_option maxHeartbeats 1000000 in
theorem spec_l11Formula (t : ByteArray) (w : World) (ht : t.size ≤ 1048576) : Calls Tryz.prog 69 #[.string t] w fun e w' => e = .returned (.bool (wrB t)) ∧ Below w.heap.size w w' := by
  have q : ¬ 9223372036854775807 < 1 + t.size := by omega
  have HZ : Hid (((⟨#[61]⟩ : ByteArray) ++ t).size ≤ maxLen) := by show _ ≤ _; rw [eq_size]; unfold maxLen; omega
  cases ho : inF ((⟨#[61]⟩ : ByteArray) ++ t) with
  | none =>
    have HO : Hid (inF ((⟨#[61]⟩ : ByteArray) ++ t) = none) := ho
    have HB : Hid (wrB t = false) := by show _ = _; unfold wrB ownB; rw [ho]
    clear ho
    go_enter Tryz.func69, Tryz.ntmps69
    go_wp2_with fail
    refine (spec_InputOf _ w HZ.out).mono ?_
    rintro e u1 ⟨he, hb⟩
    rw [HO.out] at he
    obtain rfl : e = .returned (.tuple #[.string ⟨#[]⟩, .bool false]) := he
    go_wp2_with fail
    go_ret
    exact ⟨ret_bool HB.out.symm, hb⟩
  | some x =>
    have HO : Hid (inF ((⟨#[61]⟩ : ByteArray) ++ t) = some x) := ho
    have HB : Hid (wrB t = (x.toList == ((⟨#[61]⟩ : ByteArray) ++ t).toList)) := by show _ = _; unfold wrB ownB; rw [ho]
    clear ho
    go_enter Tryz.func69, Tryz.ntmps69
    go_wp2_with fail
    refine (spec_InputOf _ w HZ.out).mono ?_
    rintro e u1 ⟨he, hb⟩
    rw [HO.out] at he
    obtain rfl : e = .returned (.tuple #[.string x, .bool true]) := he
    go_wp2_with fail
    go_ret
    exact ⟨ret_bool HB.out.symm, hb⟩
end Go.Proofs.YtbkklapkpiogoaaGreatDoor
