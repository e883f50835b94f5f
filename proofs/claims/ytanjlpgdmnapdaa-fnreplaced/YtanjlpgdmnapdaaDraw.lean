import Derived.Test.YtanjlpgdmnapdaaBase
import Derived.Deep.QuietTactic
import Derived.BigQuiet
namespace Go.Proofs.Ytanjlpgdmnapdaa
open Go.RowKit

/-- The reader of drawn bytes lies in block r over the slice A: its place is within it, its cell may be written, its bytes are there, in another block. -/
def Rd (W : World) (r : Nat) (A : Option Addr) (len cap : Nat) : Prop :=
  len ≤ 1048576 ∧ (∀ i, i < len → ∃ b o v, A = some ⟨b, o, none⟩ ∧ b ≠ r ∧ W.cell? ⟨b, o + i, none⟩ = some (.int .u8 v) ∧ 0 ≤ v ∧ v ≤ 255) ∧
  W.cell? ⟨r, 0, none⟩ = some (.slice A len cap) ∧ W.frozen? ⟨r, 1, none⟩ = false ∧ ∃ p : Nat, p ≤ len ∧ W.cell? ⟨r, 1, none⟩ = some (.int .i64 p)
/-- Nothing that was there has turned but block r. -/
def Upd (r : Nat) (W w' : World) : Prop :=
  (∀ b o, b < W.heap.size → b ≠ r → w'.cell? ⟨b, o, none⟩ = W.cell? ⟨b, o, none⟩) ∧ (∀ b o, b < W.heap.size → b ≠ r → w'.frozen? ⟨b, o, none⟩ = W.frozen? ⟨b, o, none⟩) ∧ W.heap.size ≤ w'.heap.size ∧ Below r W w'

theorem Upd.draws (r : Nat) (W : World) (n : Nat) : Upd r W (W.drewN n) := ⟨fun _ _ _ _ => rfl, fun _ _ _ _ => rfl, Nat.le_refl _, ⟨rfl, rfl, rfl, Nat.le_refl _, fun _ _ => rfl⟩⟩
theorem Upd.trans {r : Nat} {W w1 w2 : World} (h : Upd r W w1) (h' : Upd r w1 w2) : Upd r W w2 :=
  ⟨fun b o hb hr => (h'.1 b o (Nat.lt_of_lt_of_le hb h.2.2.1) hr).trans (h.1 b o hb hr), fun b o hb hr => (h'.2.1 b o (Nat.lt_of_lt_of_le hb h.2.2.1) hr).trans (h.2.1 b o hb hr),
    Nat.le_trans h.2.2.1 h'.2.2.1, h.2.2.2.trans h'.2.2.2⟩
theorem Upd.of_below {r : Nat} {W w1 : World} (hr : r ≤ W.heap.size) (h : Below W.heap.size W w1) : Upd r W w1 :=
  ⟨fun b o hb _ => h.cell (p := ⟨b, o, none⟩) hb, fun b o hb _ => h.frozen (p := ⟨b, o, none⟩) hb, h.size, h.mono hr⟩
theorem Upd.set {r o : Nat} {W : World} {v : Value} : Upd r W (W.setCell ⟨r, o, none⟩ v) :=
  ⟨fun b o' _ hr => World.cell?_setCell_other W ⟨r, o, none⟩ ⟨b, o', none⟩ v (fun e => hr (congrArg Addr.block e).symm),
    fun b o' _ _ => by simp, by simp, (Below.refl r W).setCell (p := ⟨r, o, none⟩) (Nat.le_refl _) v⟩
theorem lt_of_cell {W : World} {b o : Nat} {v : Value} (h : W.cell? ⟨b, o, none⟩ = some v) : b < W.heap.size := World.block_lt_of_cell? W ⟨b, o, none⟩ h
theorem Rd.lt {W : World} {r : Nat} {A : Option Addr} {len cap : Nat} (h : Rd W r A len cap) : r < W.heap.size := lt_of_cell h.2.2.1
/-- The reader behind what turned nothing of it. -/
theorem Rd.keep {W w1 : World} {r : Nat} {A : Option Addr} {len cap : Nat} (h : Rd W r A len cap) (hc : ∀ b o, b < W.heap.size → w1.cell? ⟨b, o, none⟩ = W.cell? ⟨b, o, none⟩) (hf : ∀ b o, b < W.heap.size → w1.frozen? ⟨b, o, none⟩ = W.frozen? ⟨b, o, none⟩) : Rd w1 r A len cap := by
  obtain ⟨h0, h1, h2, h3, p, hp, h4⟩ := h
  have hr := lt_of_cell h2
  refine ⟨h0, fun i hi => ?_, (hc _ _ hr).trans h2, (hf _ _ hr).trans h3, p, hp, (hc _ _ hr).trans h4⟩
  obtain ⟨b, o, v, e, hb, c, v0, v1⟩ := h1 i hi
  exact ⟨b, o, v, e, hb, (hc _ _ (lt_of_cell c)).trans c, v0, v1⟩
theorem Rd.below {W w1 : World} {r : Nat} {A : Option Addr} {len cap : Nat} (h : Rd W r A len cap) (hb : Below W.heap.size W w1) : Rd w1 r A len cap :=
  h.keep (fun b o hl => hb.cell (p := ⟨b, o, none⟩) hl) (fun b o hl => hb.frozen (p := ⟨b, o, none⟩) hl)

theorem Rd.set {W : World} {r : Nat} {A : Option Addr} {len cap : Nat} (h : Rd W r A len cap) (q : Nat) (hq : q ≤ len) : Rd (W.setCell ⟨r, 1, none⟩ (.int .i64 q)) r A len cap := by
  obtain ⟨h0, h1, h2, h3, p, hp, h4⟩ := h
  refine ⟨h0, fun i hi => ?_, ?_, by simpa using h3, q, hq, World.cell?_setCell_same _ _ _ h4⟩
  · obtain ⟨b, o, v, e, hb, c, v0, v1⟩ := h1 i hi
    exact ⟨b, o, v, e, hb, (World.cell?_setCell_other W ⟨r, 1, none⟩ ⟨b, o + i, none⟩ _ (fun e => hb (congrArg Addr.block e).symm)).trans c, v0, v1⟩
  · exact (World.cell?_setCell_other W ⟨r, 1, none⟩ ⟨r, 0, none⟩ _ (fun e => by cases e)).trans h2

set_option maxHeartbeats 1000000 in
theorem rd_next (r : Nat) (A : Option Addr) (len cap : Nat) (W : World) (h : Rd W r A len cap) : Calls Try.prog 87 #[.pointer (some ⟨r, 0, none⟩)] W fun e w' =>
    ∃ v, e = .returned (.int .i64 v) ∧ 0 ≤ v ∧ v ≤ 255 ∧ Rd w' r A len cap ∧ Upd r W w' := by
  have HH : Hid (Rd W r A len cap) := h
  obtain ⟨h0, h1, h2, h3, p, hp, h4⟩ := h
  by_cases hl : p = len
  · subst hl
    clear h1
    have hge : (p : Int) ≤ (p : Int) := Int.le_refl _
    go_enter Try.func87, Try.ntmps87
    go_wp2_with fail
    go_quiet (fail)
    go_wp2_with fail
    go_ret
    exact ⟨0, rfl, by omega, by omega, HH.out.keep (fun _ _ _ => rfl) (fun _ _ _ => rfl), Upd.draws _ _ _⟩
  · have hlt : p < len := by omega
    obtain ⟨b, o, v, rfl, hb, c, v0, v1⟩ := h1 p hlt
    clear h1
    have hlt' : (p : Int) < (len : Int) := by omega
    have hp0 : (0 : Int) ≤ (p : Int) := by omega
    go_enter Try.func87, Try.ntmps87
    go_wp2_with fail
    go_quiet (fail)
    go_wp2_with fail
    go_quiet (fail)
    go_wp2_with fail
    go_ret
    have e : ((p + 1 : Nat) : Int) = (p : Int) + 1 := by omega
    have hn := HH.out.set (p + 1) (by omega)
    rw [e] at hn
    exact ⟨v, rfl, v0, v1, hn.keep (fun _ _ _ => rfl) (fun _ _ _ => rfl), (Upd.draws _ _ _).trans (Upd.set.trans (Upd.draws _ _ _))⟩

set_option maxHeartbeats 1000000 in
theorem rd_below (r : Nat) (A : Option Addr) (len cap : Nat) (n : Int) (W : World) (h : Rd W r A len cap) (h0 : 1 ≤ n) (h1 : n ≤ 1048577) : Calls Try.prog 55 #[.pointer (some ⟨r, 0, none⟩), .int .i64 n] W fun e w' =>
    ∃ v, e = .returned (.int .i64 v) ∧ 0 ≤ v ∧ v < n ∧ Rd w' r A len cap ∧ Upd r W w' := by
  have HH : Hid (Rd W r A len cap) := h
  clear h
  by_cases ha : n ≤ 1
  · go_enter Try.func55, Try.ntmps55
    go_wp2_with fail
    go_ret
    exact ⟨0, rfl, by omega, by omega, HH.out, Upd.draws r W 0⟩
  by_cases hb : n ≤ 256
  · go_enter Try.func55, Try.ntmps55
    go_wp2_with fail
    refine (rd_next r A len cap _ HH.out).mono ?_
    rintro e w1 ⟨v, rfl, v0, v1, hr, hu⟩
    have HR : Hid (Rd w1 r A len cap) := hr
    have HU : Hid (Upd r W w1) := hu
    clear hr hu
    go_wp2_with fail
    go_ret
    exact ⟨_, rfl, Int.emod_nonneg _ (by omega), Int.emod_lt_of_pos _ (by omega), HR.out, HU.out⟩
  · go_enter Try.func55, Try.ntmps55
    go_wp2_with fail
    refine (rd_next r A len cap _ HH.out).mono ?_
    rintro e w1 ⟨v, rfl, v0, v1, hr, hu⟩
    have HR : Hid (Rd w1 r A len cap) := hr
    have HU : Hid (Upd r W w1) := hu
    clear hr hu
    go_wp2_with fail
    refine (rd_next r A len cap _ HR.out).mono ?_
    rintro e w2 ⟨v', rfl, v0', v1', hr, hu⟩
    have HR' : Hid (Rd w2 r A len cap) := hr
    have HU' : Hid (Upd r w1 w2) := hu
    clear hr hu
    go_wp2_with fail
    go_ret
    exact ⟨_, rfl, Int.emod_nonneg _ (by omega), Int.emod_lt_of_pos _ (by omega), HR'.out, HU.out.trans HU'.out⟩

set_option maxHeartbeats 1000000 in
theorem rd_once (r : Nat) (A : Option Addr) (len cap : Nat) (n : Int) (W : World) (h : Rd W r A len cap) (h0 : 1 ≤ n) (h1 : n ≤ 1048577) : Calls Try.prog 60 #[.pointer (some ⟨r, 0, none⟩), .int .i64 n] W fun e w' =>
    ∃ b, e = .returned (.bool b) ∧ Rd w' r A len cap ∧ Upd r W w' := by
  have HH : Hid (Rd W r A len cap) := h
  clear h
  go_enter Try.func60, Try.ntmps60
  go_wp2_with fail
  refine (rd_below r A len cap n _ HH.out h0 h1).mono ?_
  rintro e w1 ⟨v, rfl, v0, v1, hr, hu⟩
  have HR : Hid (Rd w1 r A len cap) := hr
  have HU : Hid (Upd r W w1) := hu
  clear hr hu
  go_wp2_with fail
  go_ret
  exact ⟨_, rfl, HR.out, HU.out⟩

set_option maxHeartbeats 1000000 in
theorem rd_word (r : Nat) (A : Option Addr) (len cap : Nat) (W : World) (h : Rd W r A len cap) : Calls Try.prog 101 #[.pointer (some ⟨r, 0, none⟩)] W fun e w' =>
    ∃ v, e = .returned (.int .u64 v) ∧ 0 ≤ v ∧ v ≤ 18446744073709551615 ∧ Rd w' r A len cap ∧ Upd r W w' := by
  have HH : Hid (Rd W r A len cap) := h
  clear h
  go_enter Try.func101, Try.ntmps101
  go_wp2_with fail
  go_loopw [3, 4] (fun x i wr => ∃ (k : Nat) (v : Int), k ≤ 8 ∧ x = .int .u64 v ∧ (Lit.int .u64 v).wf = true ∧ i = .int .i64 k ∧ Rd wr r A len cap ∧ Upd r W wr) (fun _ i _ => 8 - (intOf i).toNat)
  case atStart => exact ⟨0, 0, by omega, rfl, by decide, rfl, HH.out, Upd.draws r W 0⟩
  case round =>
    obtain ⟨k, v, hk, rfl, hv, rfl, hr, hu⟩ := hrel
    have HR : Hid (Rd wr r A len cap) := hr
    have HU : Hid (Upd r W wr) := hu
    have HV : Hid ((Lit.int .u64 v).wf = true) := hv
    clear hr hu hv
    by_cases hlt : k < 8
    · have hlt' : (k : Int) < 8 := by omega
      go_wp2_with fail
      refine (rd_next r A len cap _ HR.out).mono ?_
      rintro e w1 ⟨u, rfl, v0, v1, hr, hu⟩
      have HR' : Hid (Rd w1 r A len cap) := hr
      have HU' : Hid (Upd r wr w1) := hu
      clear hr hu
      go_wp2_with fail
      go_roundw
      case rel => exact ⟨k + 1, _, by omega, rfl, wf_bits _ _ _ _, by go_num, HR'.out, HU.out.trans HU'.out⟩
      case measure => simp [intOf]; omega
    · have hlt' : ¬ (k : Int) < 8 := by omega
      go_wp2_with fail
      go_ret
      have hb := bounds_u64 HV.out
      exact ⟨v, rfl, hb.1, hb.2, HR.out, HU.out⟩
end Go.Proofs.Ytanjlpgdmnapdaa
