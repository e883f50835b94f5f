import Derived.Test.YthdclafkcondmaaGreatDoorDrawR
import Derived.Laws.OwnMore
import Derived.Laws.AppendOwn
set_option linter.unusedVariables false
namespace Go.Proofs.YthdclafkcondmaaGreatDoor
open Go.RowKit
/-- Nothing that was there has turned but block r, block by block. -/
def UpdG (r : Nat) (W w' : World) : Prop := Upd r W w' ∧ W.grownBy w' (some r)
theorem grown_trans' {a b c : World} {row : Option Nat} (h : a.grownBy b row) (h' : b.grownBy c row) : a.grownBy c row :=
  ⟨h'.os.trans h.os, h'.tape.trans h.tape, h'.output.trans h.output, Nat.le_trans h.size h'.size, fun k hk hr => (h'.block k (Nat.lt_of_lt_of_le hk h.size) hr).trans (h.block k hk hr)⟩
theorem UpdG.draws (r : Nat) (W : World) (n : Nat) : UpdG r W (W.drewN n) := ⟨Upd.draws r W n, ⟨rfl, rfl, rfl, Nat.le_refl _, fun _ _ _ => rfl⟩⟩
theorem UpdG.trans {r : Nat} {W w1 w2 : World} (h : UpdG r W w1) (h' : UpdG r w1 w2) : UpdG r W w2 := ⟨h.1.trans h'.1, grown_trans' h.2 h'.2⟩
theorem UpdG.set {r o : Nat} {W : World} {v : Value} : UpdG r W (W.setCell ⟨r, o, none⟩ v) :=
  ⟨Upd.set, ⟨rfl, rfl, rfl, by simp, fun k _ hk => Below.heap_setCell W ⟨r, o, none⟩ v k (fun e => hk (by rw [e]))⟩⟩
theorem UpdG.of_below {r : Nat} {W w1 : World} (hr : r ≤ W.heap.size) (h : Below W.heap.size W w1) : UpdG r W w1 :=
  ⟨Upd.of_below hr h, ⟨h.os, h.tape, h.output, h.size, fun k hk _ => h.block k hk⟩⟩
set_option maxHeartbeats 1000000 in
theorem rd_nextG (r : Nat) (A : Option Addr) (len cap : Nat) (W : World) (h : Rd W r A len cap) : Calls Tryz.prog 95 #[.pointer (some ⟨r, 0, none⟩)] W fun e w' =>
    ∃ v, e = .returned (.int .i64 v) ∧ 0 ≤ v ∧ v ≤ 255 ∧ Rd w' r A len cap ∧ UpdG r W w' := by
  have HH : Hid (Rd W r A len cap) := h
  obtain ⟨h0, h1, h2, h3, p, hp, h4⟩ := h
  by_cases hl : p = len
  · subst hl
    clear h1
    have hge : (p : Int) ≤ (p : Int) := Int.le_refl _
    go_enter Tryz.func95, Tryz.ntmps95
    go_wp2_with fail
    go_quiet (fail)
    go_wp2_with fail
    go_ret
    exact ⟨0, rfl, by omega, by omega, HH.out.keep (fun _ _ _ => rfl) (fun _ _ _ => rfl), UpdG.draws _ _ _⟩
  · have hlt : p < len := by omega
    obtain ⟨b, o, v, rfl, hb, c, v0, v1⟩ := h1 p hlt
    clear h1
    have hlt' : (p : Int) < (len : Int) := by omega
    have hp0 : (0 : Int) ≤ (p : Int) := by omega
    go_enter Tryz.func95, Tryz.ntmps95
    go_wp2_with fail
    go_quiet (fail)
    go_wp2_with fail
    go_quiet (fail)
    go_wp2_with fail
    go_ret
    have e : ((p + 1 : Nat) : Int) = (p : Int) + 1 := by omega
    have hn := HH.out.set (p + 1) (by omega)
    rw [e] at hn
    exact ⟨v, rfl, v0, v1, hn.keep (fun _ _ _ => rfl) (fun _ _ _ => rfl), (UpdG.draws _ _ _).trans (UpdG.set.trans (UpdG.draws _ _ _))⟩
set_option maxHeartbeats 1000000 in
theorem rd_belowG (r : Nat) (A : Option Addr) (len cap : Nat) (n : Int) (W : World) (h : Rd W r A len cap) (h0 : 1 ≤ n) (h1 : n ≤ 1048577) : Calls Tryz.prog 44 #[.pointer (some ⟨r, 0, none⟩), .int .i64 n] W fun e w' =>
    ∃ v, e = .returned (.int .i64 v) ∧ 0 ≤ v ∧ v < n ∧ Rd w' r A len cap ∧ UpdG r W w' := by
  have HH : Hid (Rd W r A len cap) := h
  clear h
  by_cases ha : n ≤ 1
  · go_enter Tryz.func44, Tryz.ntmps44
    go_wp2_with fail
    go_ret
    exact ⟨0, rfl, by omega, by omega, HH.out, UpdG.draws r W 0⟩
  by_cases hb : n ≤ 256
  · go_enter Tryz.func44, Tryz.ntmps44
    go_wp2_with fail
    refine (rd_nextG r A len cap _ HH.out).mono ?_
    rintro e w1 ⟨v, rfl, v0, v1, hr, hu⟩
    have HR : Hid (Rd w1 r A len cap) := hr
    have HU : Hid (UpdG r W w1) := hu
    clear hr hu
    go_wp2_with fail
    go_ret
    exact ⟨_, rfl, Int.emod_nonneg _ (by omega), Int.emod_lt_of_pos _ (by omega), HR.out, HU.out⟩
  · go_enter Tryz.func44, Tryz.ntmps44
    go_wp2_with fail
    refine (rd_nextG r A len cap _ HH.out).mono ?_
    rintro e w1 ⟨v, rfl, v0, v1, hr, hu⟩
    have HR : Hid (Rd w1 r A len cap) := hr
    have HU : Hid (UpdG r W w1) := hu
    clear hr hu
    go_wp2_with fail
    refine (rd_nextG r A len cap _ HR.out).mono ?_
    rintro e w2 ⟨v', rfl, v0', v1', hr, hu⟩
    have HR' : Hid (Rd w2 r A len cap) := hr
    have HU' : Hid (UpdG r w1 w2) := hu
    clear hr hu
    go_wp2_with fail
    go_ret
    exact ⟨_, rfl, Int.emod_nonneg _ (by omega), Int.emod_lt_of_pos _ (by omega), HR'.out, HU.out.trans HU'.out⟩
theorem infoU8 : (Tryz.prog.info? 5).map (fun i => (i.zero, i.size, i.bytes)) = some (some (.int .u8 0), 1, 1) := by kernel_rfl
/-- Bytes. -/
def Bys (xs : List Value) : Prop := ∃ l : List Int, xs = l.map (Value.int .u8)
theorem push_size : ∀ (l : List Int) (r : ByteArray), (l.foldl (fun r n => r.push (UInt8.ofNat n.toNat)) r).size = r.size + l.length
  | [], r => rfl
  | n :: l, r => by rw [List.foldl_cons, push_size l, ByteArray.size_push, List.length_cons]; omega
theorem conv_row {W : World} {B k : Nat} {v : Value} {xs : List Value} (h : W.ownsRow B 5 1 v k xs) (hb : Bys xs) : ∃ s : ByteArray, s.size = k ∧ (convert 22 9 v).run Tryz.prog W = .ok (.string s) W := by
  obtain ⟨l, rfl⟩ := hb
  have hl : l.length = k := by have := h.1; simpa using this
  rcases h.2 with ⟨rfl, rfl⟩ | ⟨g, cap, cur, rfl, _⟩
  · refine ⟨⟨#[]⟩, rfl, ?_⟩
    rw [run_convert_bytes_string W 22 9 5 none 0 0 Tryz.underlying22 Tryz.underlying5 Tryz.underlying9]
    rfl
  · rw [run_convert_bytes_string W 22 9 5 (some ⟨g, 0, none⟩) k cap Tryz.underlying22 Tryz.underlying5 Tryz.underlying9]
    have hc := run_loadCells_list (P := Tryz.prog) W ⟨g, 0, none⟩ (l.map (Value.int .u8)) (fun j x hj => h.cells (g := g) rfl j x hj)
    rw [run_bytesToString W ⟨g, 0, none⟩ k cap l (by simpa [hl] using hc)]
    exact ⟨_, by rw [push_size]; rw [hl]; exact Nat.zero_add _, rfl⟩
/-- A byte, appended onto a row of bytes. -/
theorem app_byte {ops : Array Oper} {rest : List Oper} {o : Oper} {a : Act} {Q : Exit → Act → World → Prop} (w : World) (hgd : o.guard = none) (s x : Operand)
    (ho : o.op = .call { callee := .builtin .append, args := #[s, x], argTypes := #[22, 22] }) (v : Value) (hs : a.eval s = v) (base : Nat) (hb : base ≤ w.heap.size) (k : Nat) (ys : List Value) (hown : w.ownsRow base 5 1 v k ys)
    (z : Int) (g : Nat) (hx : a.eval x = .slice (some ⟨g, 0, none⟩) 1 1) (hc : w.cell? ⟨g, 0, none⟩ = some (.int .u8 z)) (hk : k ≤ 60)
    (h : ∀ v' w', w'.ownsRow base 5 1 v' (k + 1) (ys ++ [.int .u8 z]) → w.grownBy w' v.ownBlock → wpList Tryz.prog ops Q rest (a.put o.dst v') w') : wpList Tryz.prog ops Q (o :: rest) a w := by
  obtain ⟨i0, hi0, hz0, hz1, hz2⟩ := info_parts infoU8
  refine wpList_append_own w hgd s x 22 ho base 5 i0 (.int .u8 0) 1 1 Tryz.underlying22 hi0 hz0 hz1 hz2 rfl (by decide) v k ys hs hown ⟨g, 0, none⟩ 1 1 [.int .u8 z] hx rfl ?_ ?_ ?_ ?_ hb ?_
  · intro j u hj
    match j, hj with
    | 0, hj => simp at hj; simpa [Addr.add, ← hj] using hc
  · intro u hu
    simp only [List.mem_singleton] at hu
    subst hu
    rfl
  · unfold maxLen; omega
  · omega
  · intro v' w' ho' hg' _
    exact h v' w' ho' hg'
theorem own_empty8 {W : World} {B g : Nat} {e : TypeId} {size : Nat} (hB : B ≤ W.heap.size) (hg : g = W.heap.size) : (W.alloc (.cells #[] e)).ownsRow B e size (.slice (some ⟨g, 0, none⟩) 0 0) 0 [] := by
  subst hg
  exact World.ownsRow_made W #[] 0 hB (Nat.zero_le _) (by simp)
theorem own_below8 {W w' : World} {B : Nat} {e : TypeId} {size n : Nat} {v : Value} {xs : List Value} (h : W.ownsRow B e size v n xs) (hb : Below W.heap.size W w') : w'.ownsRow B e size v n xs := by
  refine ⟨h.1, ?_⟩
  rcases h.2 with hn | ⟨g, cap, cur, rfl, hB, hgg, rest⟩
  · exact .inl hn
  · exact .inr ⟨g, cap, cur, rfl, hB, by rw [hb.block g (Array.getElem?_eq_some_iff.1 hgg).1]; exact hgg, rest⟩
theorem own_updG {W w1 : World} {r B k : Nat} {e : TypeId} {v : Value} {xs : List Value} (h : W.ownsRow B e 1 v k xs) (hu : UpdG r W w1) (hr : r < B) : w1.ownsRow B e 1 v k xs := by
  refine h.kept hu.2 ?_
  cases hv : v.ownBlock with
  | none => exact Or.inl rfl
  | some g =>
    right
    intro e9
    cases e9
    have := (h.lt r hv).1
    omega
set_option maxRecDepth 100000 in
set_option maxHeartbeats 4000000 in
theorem rd_bytes (r : Nat) (A : Option Addr) (len cap : Nat) (w : World) (hr : Rd w r A len cap) : Calls Tryz.prog 96 #[.pointer (some ⟨r, 0, none⟩), .int .i64 2] w fun e w' =>
    ∃ s : ByteArray, e = .returned (.string s) ∧ s.size ≤ 2 ∧ Rd w' r A len cap ∧ Upd r w w' := by
  have HH : Hid (Rd w r A len cap) := hr
  have HL : Hid (r < w.heap.size) := hr.lt
  clear hr
  go_enter Tryz.func96, Tryz.ntmps96
  have HO0 : Hid ((w.alloc (.cells #[] 5)).ownsRow w.heap.size 5 1 (.slice (some ⟨w.heap.size, 0, none⟩) 0 0) 0 []) := own_empty8 (Nat.le_refl _) rfl
  go_wp2_with fail
  refine (rd_belowG r A len cap 3 _ (HH.out.below (by go_grown)) (by omega) (by omega)).mono ?_
  rintro e w1 ⟨v, rfl, v0, v1, hr, hu⟩
  have HR1 : Hid (Rd w1 r A len cap) := hr
  have HU1 : Hid (UpdG r w w1) := (UpdG.of_below (Nat.le_of_lt HL.out) (by go_grown)).trans hu
  have HO1 : Hid (w1.ownsRow w.heap.size 5 1 (.slice (some ⟨w.heap.size, 0, none⟩) 0 0) 0 []) := own_updG HO0.out hu HL.out
  clear hr hu HO0
  obtain ⟨n, rfl⟩ : ∃ n : Nat, v = (n : Int) := ⟨v.toNat, by omega⟩
  go_wp2_with fail
  go_loopw [5, 6] (fun o i wr => ∃ (t k : Nat) (xs : List Value), i = .int .i64 t ∧ t + k ≤ 2 ∧ wr.ownsRow w.heap.size 5 1 o k xs ∧ Bys xs ∧ Rd wr r A len cap ∧ UpdG r w wr) (fun _ i _ => (intOf i).toNat)
  case atStart => exact ⟨n, 0, [], rfl, by omega, HO1.out, ⟨[], rfl⟩, HR1.out, HU1.out⟩
  case round =>
    clear HR1 HU1 HO1
    obtain ⟨t, k, xs, rfl, htk, hown, hby, hr, hu⟩ := hrel
    have HO : Hid (wr.ownsRow w.heap.size 5 1 u5 k xs) := hown
    have HY : Hid (Bys xs) := hby
    have HR : Hid (Rd wr r A len cap) := hr
    have HU : Hid (UpdG r w wr) := hu
    have HSZ : Hid (w.heap.size ≤ wr.heap.size) := hu.1.2.2.1
    clear hown hby hr hu
    by_cases h0 : (t : Int) ≤ 0
    · have h0' : ¬ (0 : Int) < (t : Int) := by omega
      obtain ⟨s, hs, hcv⟩ := conv_row HO.out HY.out
      have HS : Hid (s.size ≤ 2) := (by omega : s.size ≤ 2)
      clear hs
      go_wp2_with fail
      go_ret
      exact ⟨s, rfl, HS.out, HR.out, HU.out.1⟩
    · have h0' : (0 : Int) < (t : Int) := by omega
      go_wp2_with fail
      refine (rd_belowG r A len cap 256 _ HR.out (by omega) (by omega)).mono ?_
      rintro e w2 ⟨z, rfl, z0, z1, hr, hu⟩
      have HR2 : Hid (Rd w2 r A len cap) := hr
      have HU2 : Hid (UpdG r w w2) := HU.out.trans hu
      have HO2 : Hid (w2.ownsRow w.heap.size 5 1 u5 k xs) := own_updG HO.out hu HL.out
      have HS2 : Hid (w.heap.size ≤ w2.heap.size) := Nat.le_trans HSZ.out hu.1.2.2.1
      clear hr hu HO HR HU
      go_wp2_with (at_builtin; refine app_byte _ rfl _ _ rfl u5 rfl w.heap.size ?hb k xs ?hw z _ rfl ?hc (by omega) ?_)
      case hb => have := HS2.out; simp; omega
      case hw => exact own_below8 HO2.out (by go_grown)
      case hc => simp
      intro v3 w3 hown3 hgrow3
      have HB3 : Hid (Below w.heap.size w2 w3) := Below.grown (Below.mono (by go_grown : Below w2.heap.size w2 (w2.alloc (.cells #[.int .u8 z] 5))) HS2.out) hgrow3 (by have := HS2.out; simp; omega) (fun q hq => (HO2.out.lt q hq).1)
      have HO3 : Hid (w3.ownsRow w.heap.size 5 1 v3 (k + 1) (xs ++ [.int .u8 z])) := hown3
      have HY3 : Hid (Bys (xs ++ [.int .u8 z])) := by
        obtain ⟨l, hl⟩ := HY.out
        exact ⟨l ++ [z], by rw [hl]; simp⟩
      have HR3 : Hid (Rd w3 r A len cap) := (HH.out.carry HR2.out HU2.out.1 HB3.out).1
      have HU3 : Hid (UpdG r w w3) := ⟨(HH.out.carry HR2.out HU2.out.1 HB3.out).2, ⟨HB3.out.os.trans HU2.out.2.os, HB3.out.tape.trans HU2.out.2.tape, HB3.out.output.trans HU2.out.2.output, Nat.le_trans HU2.out.2.size HB3.out.size, fun q hq hn => (HB3.out.block q hq).trans (HU2.out.2.block q hq hn)⟩⟩
      clear hown3 hgrow3 HO2 HR2 HU2 HB3
      go_wp2_with fail
      go_roundw
      case rel => exact ⟨t - 1, k + 1, _, by congr 1; omega, by omega, HO3.out, HY3.out, HR3.out, HU3.out⟩
      case measure => simp [intOf]; omega
end Go.Proofs.YthdclafkcondmaaGreatDoor
