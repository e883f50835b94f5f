import Derived.Test.YtanjlpgdmnapdaaDdG
import Derived.Test.YtanjlpgdmnapdaaLdA
namespace Go.Proofs.Ytanjlpgdmnapdaa
open Go.RowKit Go.Maps
set_option linter.unusedSimpArgs false
set_option linter.unusedVariables false

def tabT (n : Nat) : ByteArray := match n with
  | 0 => ⟨#[]⟩
  | 1 => ⟨#[97]⟩
  | 2 => ⟨#[98]⟩
  | 3 => ⟨#[97, 98]⟩
  | 4 => ⟨#[97, 98, 99]⟩
  | _ => ⟨#[120, 32, 121]⟩
theorem tabT_size (n : Nat) : (tabT n).size ≤ 8 := by unfold tabT; split <;> decide
def tabN (n : Nat) : ByteArray := match n with
  | 0 => ⟨#[108, 111, 103]⟩
  | 1 => ⟨#[98, 97, 115, 101]⟩
  | 2 => ⟨#[98, 97, 115, 101, 46, 110, 101, 119]⟩
  | _ => ⟨#[98]⟩
theorem tabN_size (n : Nat) : (tabN n).size ≤ 8 := by unfold tabN; split <;> decide
def tabO (n : Nat) : ByteArray := match n with
  | 0 => ⟨#[108, 111, 103]⟩
  | 1 => ⟨#[98, 97, 115, 101]⟩
  | _ => ⟨#[99]⟩
theorem tabO_size (n : Nat) : (tabO n).size ≤ 8 := by unfold tabO; split <;> decide
theorem UpdG.after {r : Nat} {W w1 w2 : World} (hr : r < W.heap.size) (hb : Below W.heap.size W w1) (hu : UpdG r w1 w2) : UpdG r W w2 := (UpdG.of_below (Nat.le_of_lt hr) hb).trans hu
theorem UpdG.then {r : Nat} {W w1 w2 : World} (hu : UpdG r W w1) (hr : r < w1.heap.size) (hb : Below w1.heap.size w1 w2) : UpdG r W w2 := hu.trans (UpdG.of_below (Nat.le_of_lt hr) hb)
theorem UpdG.fresh {r b o : Nat} {W w1 : World} {v : Value} (h : UpdG r W w1) (hb : W.heap.size ≤ b) (hr : r < W.heap.size) : UpdG r W (w1.setCell ⟨b, o, none⟩ v) := by
  obtain ⟨⟨h1, h2, h3, h4⟩, h5⟩ := h
  refine ⟨⟨fun c p hc hn => ?_, fun c p hc hn => ?_, by simpa using h3, h4.setCell (by show r ≤ b; omega) _⟩, ⟨h5.os, h5.tape, h5.output, by simpa using h5.size, fun k hk hn => ?_⟩⟩
  · rw [World.cell?_setCell_other _ _ _ _ (by intro e; cases e; omega)]; exact h1 c p hc hn
  · rw [show (w1.setCell ⟨b, o, none⟩ v).frozen? ⟨c, p, none⟩ = w1.frozen? ⟨c, p, none⟩ by simp]; exact h2 c p hc hn
  · rw [Below.heap_setCell _ _ _ _ (by show k ≠ b; omega)]; exact h5.block k hk hn
theorem Rd.inW {W : World} {r : Nat} {A : Option Addr} {len cap : Nat} (h : Rd W r A len cap) : 0 < len → ∀ x, A = some x → x.block < W.heap.size := fun hl x e => by
  obtain ⟨b, o, v, e1, _, c, _⟩ := h.2.1 0 hl
  rw [e] at e1; cases e1
  exact lt_of_cell c
set_option maxHeartbeats 1000000 in
theorem rd_textD (r : Nat) (A : Option Addr) (len cap : Nat) (W : World) (h : Rd W r A len cap) : Calls Try.prog 61 #[.pointer (some ⟨r, 0, none⟩)] W fun e w' =>
    ∃ s, e = .returned (.string s) ∧ s.size ≤ 8 ∧ Rd w' r A len cap ∧ UpdG r W w' := by
  have HH : Hid (Rd W r A len cap) := h
  have hrl := h.lt
  clear h
  go_enter Try.func61, Try.ntmps61
  go_wp2_with fail
  refine (rd_belowG r A len cap 6 _ (HH.out.below (by go_grown)) (by omega) (by omega)).mono ?_
  rintro e w1 ⟨v1, rfl, vl, vu, hr, hu⟩
  obtain ⟨n1, rfl⟩ : ∃ n : Nat, v1 = (n : Int) := ⟨v1.toNat, by omega⟩
  have hn1 : n1 < 6 := by omega
  have c1 : w1.cell? ⟨W.heap.size, n1, none⟩ = some (.string (tabT n1)) := by
    rw [hu.1.1 _ _ (by simp) (by show W.heap.size ≠ r; omega)]
    have hq : n1 = 0 ∨ n1 = 1 ∨ n1 = 2 ∨ n1 = 3 ∨ n1 = 4 ∨ n1 = 5 := by omega
    rcases hq with rfl | rfl | rfl | rfl | rfl | rfl <;> simp [tabT]
  have HR : Hid (Rd w1 r A len cap) := hr
  have HU : Hid (UpdG r W w1) := UpdG.after hrl (by go_grown) hu
  have hn6 : (n1 : Int) < 6 := by omega
  have hn0 : (0 : Int) ≤ (n1 : Int) := by omega
  have hl1 : W.heap.size < w1.heap.size := World.block_lt_of_cell? w1 ⟨W.heap.size, n1, none⟩ c1
  clear hr hu vl vu
  go_wp2_with fail
  go_ret
  exact ⟨_, rfl, tabT_size _, HR.out, HU.out⟩
set_option maxHeartbeats 1000000 in
theorem rd_sizeD (r : Nat) (A : Option Addr) (len cap : Nat) (W : World) (h : Rd W r A len cap) : Calls Try.prog 75 #[.pointer (some ⟨r, 0, none⟩), .int .i64 3, .int .i64 10] W fun e w' =>
    ∃ v : Nat, e = .returned (.int .i64 v) ∧ v ≤ 10 ∧ Rd w' r A len cap ∧ UpdG r W w' := by
  have HH : Hid (Rd W r A len cap) := h
  have hrl := h.lt
  obtain ⟨h0, _, h2, _⟩ := h
  have hq : (len : Int).tdiv 3 = ((len / 3 : Nat) : Int) := by rw [Int.tdiv_eq_ediv_of_nonneg (by omega)]; omega
  obtain ⟨q, HQ⟩ : ∃ q, Hid (len / 3 = q) := ⟨_, rfl⟩
  rw [HQ.out] at hq
  have hqb : q ≤ 1048576 := by have := HQ.out; omega
  by_cases h10 : (10 : Int) < 1 + (q : Int)
  · go_enter Try.func75, Try.ntmps75
    go_wp2_with fail
    refine (rd_belowG r A len cap 10 _ HH.out (by omega) (by omega)).mono ?_
    rintro e w1 ⟨v, rfl, v0, v1, hr, hu⟩
    obtain ⟨n, rfl⟩ : ∃ n : Nat, v = (n : Int) := ⟨v.toNat, by omega⟩
    have HR : Hid (Rd w1 r A len cap) := hr
    have HU : Hid (UpdG r W w1) := hu
    clear hr hu
    go_wp2_with fail
    go_ret
    exact ⟨1 + n, by congr 2 <;> omega, by omega, HR.out, HU.out⟩
  · go_enter Try.func75, Try.ntmps75
    go_wp2_with fail
    refine (rd_belowG r A len cap (1 + (q : Int)) _ HH.out (by omega) (by omega)).mono ?_
    rintro e w1 ⟨v, rfl, v0, v1, hr, hu⟩
    obtain ⟨n, rfl⟩ : ∃ n : Nat, v = (n : Int) := ⟨v.toNat, by omega⟩
    have HR : Hid (Rd w1 r A len cap) := hr
    have HU : Hid (UpdG r W w1) := hu
    clear hr hu
    go_wp2_with fail
    go_ret
    exact ⟨1 + n, by congr 2 <;> omega, by omega, HR.out, HU.out⟩
set_option maxHeartbeats 2000000 in
theorem rd_dopD (r : Nat) (A : Option Addr) (len cap : Nat) (W : World) (h : Rd W r A len cap) : Calls Try.prog 54 #[.pointer (some ⟨r, 0, none⟩)] W fun e w' =>
    ∃ x : DP, e = .returned (.agg #[.int .i64 x.k, .string x.n, .string x.t, .string x.d]) ∧ dpLil x ∧ Rd w' r A len cap ∧ UpdG r W w' := by
  have HH : Hid (Rd W r A len cap) := h
  have hrl := h.lt
  have HA : Hid (0 < len → ∀ x, A = some x → x.block < W.heap.size) := h.inW
  clear h
  go_enter Try.func54, Try.ntmps54
  go_wp2_with fail
  refine (rd_belowG r A len cap 4 _ (HH.out.below (by go_grown)) (by omega) (by omega)).mono ?_
  rintro e w1 ⟨v1, rfl, v0, v1', hr, hu⟩
  obtain ⟨n1, rfl⟩ : ∃ n : Nat, v1 = (n : Int) := ⟨v1.toNat, by omega⟩
  have hn1 : n1 < 4 := by omega
  have c1 : w1.cell? ⟨W.heap.size + 1, n1, none⟩ = some (.string (tabN n1)) := by
    rw [hu.1.1 _ _ (by simp) (by show W.heap.size + 1 ≠ r; omega)]
    have hq : n1 = 0 ∨ n1 = 1 ∨ n1 = 2 ∨ n1 = 3 := by omega
    rcases hq with rfl | rfl | rfl | rfl <;> simp [tabN]
  have p0 : w1.cell? ⟨W.heap.size, 0, none⟩ = some (.int .i64 0) := by rw [hu.1.1 _ _ (by simp; try omega) (by show W.heap.size ≠ r; omega)]; go_simp
  have p1 : w1.cell? ⟨W.heap.size, 1, none⟩ = some (.string ⟨#[]⟩) := by rw [hu.1.1 _ _ (by simp; try omega) (by show W.heap.size ≠ r; omega)]; go_simp
  have p2 : w1.cell? ⟨W.heap.size, 2, none⟩ = some (.string ⟨#[]⟩) := by rw [hu.1.1 _ _ (by simp; try omega) (by show W.heap.size ≠ r; omega)]; go_simp
  have p3 : w1.cell? ⟨W.heap.size, 3, none⟩ = some (.string ⟨#[]⟩) := by rw [hu.1.1 _ _ (by simp; try omega) (by show W.heap.size ≠ r; omega)]; go_simp
  have pf : ∀ o, w1.frozen? ⟨W.heap.size, o, none⟩ = false := fun o => by rw [hu.1.2.1 _ _ (by simp; try omega) (by show W.heap.size ≠ r; omega)]; go_simp
  have HR : Hid (Rd w1 r A len cap) := hr
  have HU : Hid (UpdG r W w1) := UpdG.after hrl (by go_grown) hu
  have hn4 : (n1 : Int) < 4 := by omega
  have hn0 : (0 : Int) ≤ (n1 : Int) := by omega
  have hl1 : W.heap.size + 1 < w1.heap.size := World.block_lt_of_cell? w1 ⟨W.heap.size + 1, n1, none⟩ c1
  obtain ⟨nm, HNM⟩ : ∃ nm, Hid (tabN n1 = nm) := ⟨_, rfl⟩
  rw [HNM.out] at c1
  have hnm : nm.size ≤ 8 := by rw [← HNM.out]; exact tabN_size _
  clear hr hu v0 v1'
  go_wp2_with fail
  refine (rd_belowG r A len cap 5 _ (HR.out.below (by go_grown)) (by omega) (by omega)).mono ?_
  rintro e w2 ⟨v2, rfl, v0, v2', hr, hu⟩
  have hlw : r < w1.heap.size := HR.out.lt
  have hs2 : w1.heap.size ≤ w2.heap.size := hu.1.2.2.1
  replace p0 := (hu.1.1 W.heap.size 0 (by omega) (by omega)).trans p0
  replace p1 := (hu.1.1 W.heap.size 1 (by omega) (by omega)).trans p1
  replace p2 := (hu.1.1 W.heap.size 2 (by omega) (by omega)).trans p2
  replace p3 := (hu.1.1 W.heap.size 3 (by omega) (by omega)).trans p3
  replace pf : ∀ o, w2.frozen? ⟨W.heap.size, o, none⟩ = false := fun o => (hu.1.2.1 W.heap.size o (by omega) (by omega)).trans (pf o)
  have HR2 : Hid (Rd w2 r A len cap) := hr
  have HU2 : Hid (UpdG r W w2) := HU.out.trans hu
  have hl2 : W.heap.size < w2.heap.size := by omega
  have hrn : ¬ W.heap.size = r := by omega
  clear hr hu c1
  by_cases e0 : v2 = 0
  · subst e0
    go_wp2_with fail
    refine (rd_belowG r A len cap 3 _ (HR2.out.below (by go_grown)) (by omega) (by omega)).mono ?_
    rintro e w3 ⟨v3, rfl, v30, v31, hr, hu⟩
    obtain ⟨n3, rfl⟩ : ∃ n : Nat, v3 = (n : Int) := ⟨v3.toNat, by omega⟩
    have hn3 : n3 < 3 := by omega
    have hl2r : r < w2.heap.size := HR2.out.lt
    have c3 : w3.cell? ⟨w2.heap.size, n3, none⟩ = some (.string (tabO n3)) := by
      rw [hu.1.1 _ _ (by simp) (by show w2.heap.size ≠ r; omega)]
      have hq : n3 = 0 ∨ n3 = 1 ∨ n3 = 2 := by omega
      rcases hq with rfl | rfl | rfl <;> simp [tabO]
    have q0 : w3.cell? ⟨W.heap.size, 0, none⟩ = some (.int .i64 0) := by rw [hu.1.1 _ _ (by simp; omega) (by show W.heap.size ≠ r; omega)]; go_simp
    have q1 : w3.cell? ⟨W.heap.size, 1, none⟩ = some (.string ⟨#[]⟩) := by rw [hu.1.1 _ _ (by simp; omega) (by show W.heap.size ≠ r; omega)]; go_simp
    have q2 : w3.cell? ⟨W.heap.size, 2, none⟩ = some (.string ⟨#[]⟩) := by rw [hu.1.1 _ _ (by simp; omega) (by show W.heap.size ≠ r; omega)]; go_simp
    have q3 : w3.cell? ⟨W.heap.size, 3, none⟩ = some (.string ⟨#[]⟩) := by rw [hu.1.1 _ _ (by simp; omega) (by show W.heap.size ≠ r; omega)]; go_simp
    have qf : ∀ o, w3.frozen? ⟨W.heap.size, o, none⟩ = false := fun o => by rw [hu.1.2.1 _ _ (by simp; omega) (by show W.heap.size ≠ r; omega)]; go_simp
    have HR3 : Hid (Rd w3 r A len cap) := hr
    have HU3 : Hid (UpdG r W w3) := HU2.out.trans (UpdG.after hl2r (by go_grown) hu)
    have hs3 : w2.heap.size ≤ w3.heap.size := Nat.le_trans (by simp) hu.1.2.2.1
    obtain ⟨tw, HTO⟩ : ∃ tw, Hid (tabO n3 = tw) := ⟨_, rfl⟩
    rw [HTO.out] at c3
    have hto : tw.size ≤ 8 := by rw [← HTO.out]; exact tabO_size _
    have hn30 : (0 : Int) ≤ (n3 : Int) := by omega
    have hn33 : (n3 : Int) < 3 := by omega
    have hl3 : W.heap.size < w3.heap.size := by omega
    have hl4 : w2.heap.size < w3.heap.size := World.block_lt_of_cell? w3 ⟨w2.heap.size, n3, none⟩ c3
    clear hr hu p0 p1 p2 p3 pf
    go_wp2_with fail
    refine bodyPost_ret (v := .agg #[.int .i64 2, .string nm, .string tw, .string (⟨#[]⟩ : ByteArray)]) ?_ rfl ⟨⟨2, nm, tw, (⟨#[]⟩ : ByteArray)⟩, rfl, ⟨by show nm.size ≤ _; omega, by show tw.size ≤ _; omega, by exact Nat.zero_le _⟩, ?_, ?_⟩
    · simp (maxDischargeDepth := 9) [results, Try.results54, go_sem, *]
    · exact (((HR3.out.store HA.out (Nat.le_refl _) hrn).store HA.out (Nat.le_refl _) hrn).store HA.out (Nat.le_refl _) hrn).store HA.out (Nat.le_refl _) hrn
    · exact (((HU3.out.fresh (Nat.le_refl _) hrl).fresh (Nat.le_refl _) hrl).fresh (Nat.le_refl _) hrl).fresh (Nat.le_refl _) hrl
  by_cases e1 : v2 = 1
  · subst e1
    go_wp2_with fail
    refine bodyPost_ret (v := .agg #[.int .i64 3, .string nm, .string (⟨#[]⟩ : ByteArray), .string (⟨#[]⟩ : ByteArray)]) ?_ rfl ⟨⟨3, nm, (⟨#[]⟩ : ByteArray), (⟨#[]⟩ : ByteArray)⟩, rfl, ⟨by show nm.size ≤ _; omega, by exact Nat.zero_le _, by exact Nat.zero_le _⟩, ?_, ?_⟩
    · simp (maxDischargeDepth := 9) [results, Try.results54, go_sem, *]
    · exact (((HR2.out.store HA.out (Nat.le_refl _) hrn).store HA.out (Nat.le_refl _) hrn).store HA.out (Nat.le_refl _) hrn).store HA.out (Nat.le_refl _) hrn
    · exact (((HU2.out.fresh (Nat.le_refl _) hrl).fresh (Nat.le_refl _) hrl).fresh (Nat.le_refl _) hrl).fresh (Nat.le_refl _) hrl
  · have e0b : (v2 == 0) = false := by simpa using e0
    have e1b : (v2 == 1) = false := by simpa using e1
    go_wp2_with fail
    refine (rd_textD r A len cap _ HR2.out).mono ?_
    rintro e w3 ⟨tx, rfl, htx, hr, hu⟩
    have q0 := (hu.1.1 W.heap.size 0 (by omega) (by omega)).trans p0
    have q1 := (hu.1.1 W.heap.size 1 (by omega) (by omega)).trans p1
    have q2 := (hu.1.1 W.heap.size 2 (by omega) (by omega)).trans p2
    have q3 := (hu.1.1 W.heap.size 3 (by omega) (by omega)).trans p3
    have qf : ∀ o, w3.frozen? ⟨W.heap.size, o, none⟩ = false := fun o => (hu.1.2.1 W.heap.size o (by omega) (by omega)).trans (pf o)
    have HR3 : Hid (Rd w3 r A len cap) := hr
    have HU3 : Hid (UpdG r W w3) := HU2.out.trans hu
    have hl3 : W.heap.size < w3.heap.size := World.block_lt_of_cell? w3 ⟨W.heap.size, 0, none⟩ q0
    clear hr hu p0 p1 p2 p3 pf
    go_wp2_with fail
    refine bodyPost_ret (v := .agg #[.int .i64 1, .string nm, .string (⟨#[]⟩ : ByteArray), .string tx]) ?_ rfl ⟨⟨1, nm, (⟨#[]⟩ : ByteArray), tx⟩, rfl, ⟨by show nm.size ≤ _; omega, by exact Nat.zero_le _, by show tx.size ≤ _; omega⟩, ?_, ?_⟩
    · simp (maxDischargeDepth := 9) [results, Try.results54, go_sem, *]
    · exact (((HR3.out.store HA.out (Nat.le_refl _) hrn).store HA.out (Nat.le_refl _) hrn).store HA.out (Nat.le_refl _) hrn).store HA.out (Nat.le_refl _) hrn
    · exact (((HU3.out.fresh (Nat.le_refl _) hrl).fresh (Nat.le_refl _) hrl).fresh (Nat.le_refl _) hrl).fresh (Nat.le_refl _) hrl
end Go.Proofs.Ytanjlpgdmnapdaa
