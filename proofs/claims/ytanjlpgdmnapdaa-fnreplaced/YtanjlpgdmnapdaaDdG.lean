import Derived.Test.YtanjlpgdmnapdaaDrawP
import Derived.Laws.OwnMore
import Derived.Laws.AppendOwn
namespace Go.Proofs.Ytanjlpgdmnapdaa
open Go.RowKit
set_option linter.unusedVariables false

/-- Nothing that was there has turned but block r, block by block. -/
def UpdG (r : Nat) (W w' : World) : Prop := Upd r W w' ∧ W.grownBy w' (some r)
theorem grown_trans' {a b c : World} {row : Option Nat} (h : a.grownBy b row) (h' : b.grownBy c row) : a.grownBy c row :=
  ⟨h'.os.trans h.os, h'.tape.trans h.tape, h'.output.trans h.output, Nat.le_trans h.size h'.size, fun k hk hr => (h'.block k (Nat.lt_of_lt_of_le hk h.size) hr).trans (h.block k hk hr)⟩
theorem UpdG.draws (r : Nat) (W : World) (n : Nat) : UpdG r W (W.drewN n) := ⟨Upd.draws r W n, ⟨rfl, rfl, rfl, Nat.le_refl _, fun _ _ _ => rfl⟩⟩
theorem UpdG.trans {r : Nat} {W w1 w2 : World} (h : UpdG r W w1) (h' : UpdG r w1 w2) : UpdG r W w2 := ⟨h.1.trans h'.1, grown_trans' h.2 h'.2⟩
theorem UpdG.set {r o : Nat} {W : World} {v : Value} : UpdG r W (W.setCell ⟨r, o, none⟩ v) :=
  ⟨Upd.set, ⟨rfl, rfl, rfl, by simp, fun k _ hk => Below.heap_setCell W ⟨r, o, none⟩ v k (fun e => hk (by rw [e]))⟩⟩
theorem UpdG.of_below {r : Nat} {W w1 : World} (hr : r ≤ W.heap.size) (h : Below W.heap.size W w1) : UpdG r W w1 :=
  ⟨Upd.of_below hr h, ⟨h.os, h.tape, h.output, h.size, fun k hk _ => h.block k hk⟩⟩

set_option maxHeartbeats 1000000 in
theorem rd_nextG (r : Nat) (A : Option Addr) (len cap : Nat) (W : World) (h : Rd W r A len cap) : Calls Try.prog 87 #[.pointer (some ⟨r, 0, none⟩)] W fun e w' =>
    ∃ v, e = .returned (.int .i64 v) ∧ 0 ≤ v ∧ v ≤ 255 ∧ Rd w' r A len cap ∧ UpdG r W w' := by
  have HH : Hid (Rd W r A len cap) := h
  obtain ⟨h0, h1, h2, h3, p, hp, h4⟩ := h
  by_cases hl : p = len
  · subst hl
    clear h1
    have hge : (p : Int) ≤ (p : Int) := Int.le_refl _
    go_enter Try.func87, Try.ntmps87
    go_wp2_with fail
    go_quiet (fail)
    go_wp2_with fail
    go_ret
    exact ⟨0, rfl, by omega, by omega, HH.out.keep (fun _ _ _ => rfl) (fun _ _ _ => rfl), UpdG.draws _ _ _⟩
  · have hlt : p < len := by omega
    obtain ⟨b, o, v, rfl, hb, c, v0, v1⟩ := h1 p hlt
    clear h1
    have hlt' : (p : Int) < (len : Int) := by omega
    have hp0 : (0 : Int) ≤ (p : Int) := by omega
    go_enter Try.func87, Try.ntmps87
    go_wp2_with fail
    go_quiet (fail)
    go_wp2_with fail
    go_quiet (fail)
    go_wp2_with fail
    go_ret
    have e : ((p + 1 : Nat) : Int) = (p : Int) + 1 := by omega
    have hn := HH.out.set (p + 1) (by omega)
    rw [e] at hn
    exact ⟨v, rfl, v0, v1, hn.keep (fun _ _ _ => rfl) (fun _ _ _ => rfl), (UpdG.draws _ _ _).trans (UpdG.set.trans (UpdG.draws _ _ _))⟩

set_option maxHeartbeats 1000000 in
theorem rd_belowG (r : Nat) (A : Option Addr) (len cap : Nat) (n : Int) (W : World) (h : Rd W r A len cap) (h0 : 1 ≤ n) (h1 : n ≤ 1048577) : Calls Try.prog 55 #[.pointer (some ⟨r, 0, none⟩), .int .i64 n] W fun e w' =>
    ∃ v, e = .returned (.int .i64 v) ∧ 0 ≤ v ∧ v < n ∧ Rd w' r A len cap ∧ UpdG r W w' := by
  have HH : Hid (Rd W r A len cap) := h
  clear h
  by_cases ha : n ≤ 1
  · go_enter Try.func55, Try.ntmps55
    go_wp2_with fail
    go_ret
    exact ⟨0, rfl, by omega, by omega, HH.out, UpdG.draws r W 0⟩
  by_cases hb : n ≤ 256
  · go_enter Try.func55, Try.ntmps55
    go_wp2_with fail
    refine (rd_nextG r A len cap _ HH.out).mono ?_
    rintro e w1 ⟨v, rfl, v0, v1, hr, hu⟩
    have HR : Hid (Rd w1 r A len cap) := hr
    have HU : Hid (UpdG r W w1) := hu
    clear hr hu
    go_wp2_with fail
    go_ret
    exact ⟨_, rfl, Int.emod_nonneg _ (by omega), Int.emod_lt_of_pos _ (by omega), HR.out, HU.out⟩
  · go_enter Try.func55, Try.ntmps55
    go_wp2_with fail
    refine (rd_nextG r A len cap _ HH.out).mono ?_
    rintro e w1 ⟨v, rfl, v0, v1, hr, hu⟩
    have HR : Hid (Rd w1 r A len cap) := hr
    have HU : Hid (UpdG r W w1) := hu
    clear hr hu
    go_wp2_with fail
    refine (rd_nextG r A len cap _ HR.out).mono ?_
    rintro e w2 ⟨v', rfl, v0', v1', hr, hu⟩
    have HR' : Hid (Rd w2 r A len cap) := hr
    have HU' : Hid (UpdG r w1 w2) := hu
    clear hr hu
    go_wp2_with fail
    go_ret
    exact ⟨_, rfl, Int.emod_nonneg _ (by omega), Int.emod_lt_of_pos _ (by omega), HR'.out, HU.out.trans HU'.out⟩

theorem rd_onceG (r : Nat) (A : Option Addr) (len cap : Nat) (n : Int) (W : World) (h : Rd W r A len cap) (h0 : 1 ≤ n) (h1 : n ≤ 1048577) : Calls Try.prog 60 #[.pointer (some ⟨r, 0, none⟩), .int .i64 n] W fun e w' =>
    ∃ b, e = .returned (.bool b) ∧ Rd w' r A len cap ∧ UpdG r W w' := by
  have HH : Hid (Rd W r A len cap) := h
  clear h
  go_enter Try.func60, Try.ntmps60
  go_wp2_with fail
  refine (rd_belowG r A len cap n _ HH.out h0 h1).mono ?_
  rintro e w1 ⟨v, rfl, v0, v1, hr, hu⟩
  have HR : Hid (Rd w1 r A len cap) := hr
  have HU : Hid (UpdG r W w1) := hu
  clear hr hu
  go_wp2_with fail
  go_ret
  exact ⟨_, rfl, HR.out, HU.out⟩


end Go.Proofs.Ytanjlpgdmnapdaa
