import Derived.Test.YtljbnbapmjoecaaGreatDoorShelf
import Derived.Test.YtljbnbapmjoecaaGreatDoorStrs
import Derived.Lib.LaidTab
import Derived.Stop.LaidErr
import Derived.Lib.AppendIntMem
import Derived.Lib.AtoiErrMem
namespace Go.Proofs.YtljbnbapmjoecaaGreatDoor
open Go.RowKit

theorem var_keep {P : Program} {W w' : World} {n : String} {cs : Array Value} (h : W.var? P n = some cs) (hb : Below W.heap.size W w') : w'.var? P n = some cs := by
  unfold World.var? at h ⊢
  cases hg : P.globalNamed n with
  | none => rw [hg] at h; cases h
  | some g =>
    rw [hg] at h
    simp only [Option.bind_some] at h ⊢
    have hl : g < W.heap.size := by
      cases hq : W.heap[g]? with
      | none => rw [hq] at h; cases h
      | some o => exact (Array.getElem?_eq_some_iff.1 hq).1
    rw [hb.block g hl]
    exact h
/-- What the library's reading and writing of numbers reads of its own variables. -/
def Vars (W : World) : Prop := Lib.TabIs Tryz.prog W "internal/strconv.uint64pow10" .u64 Lib.pow10Tab ∧ (∃ tp p, W.var? Tryz.prog "strconv.ErrSyntax" = some #[.iface tp p]) ∧ (∃ tp p, W.var? Tryz.prog "strconv.ErrRange" = some #[.iface tp p])
theorem Vars.below {W w' : World} (h : Vars W) (hb : Below W.heap.size W w') : Vars w' := by
  obtain ⟨h1, ⟨t2, p2, h2⟩, ⟨t3, p3, h3⟩⟩ := h
  exact ⟨var_keep h1 hb, ⟨t2, p2, var_keep h2 hb⟩, ⟨t3, p3, var_keep h3 hb⟩⟩

/-- The number whose decimal a text is. -/
def rdec (l : List UInt8) : Option Int := match Lib.parseIntB 64 l with
  | .ok v => if Lib.itoa v = l then some v else none
  | _ => none
theorem rdec_ok {l : List UInt8} {v : Int} (h : Lib.parseIntB 64 l = .ok v) (h' : Lib.itoa v = l) : rdec l = some v := by rw [rdec, h]; exact if_pos h'
theorem rdec_no {l : List UInt8} {v : Int} (h : Lib.parseIntB 64 l = .ok v) (h' : ¬ Lib.itoa v = l) : rdec l = none := by rw [rdec, h]; exact if_neg h'

set_option maxHeartbeats 2000000 in
theorem impl_readDecimal (s : ByteArray) (w : World) (hs : s.size ≤ 281474976710656) (hv : Vars w) : Calls Tryz.prog 127 #[.string s] w fun e w' =>
    e = .returned (.tuple #[.int .i64 ((rdec s.data.toList).getD 0), .bool (rdec s.data.toList).isSome]) ∧ Below w.heap.size w w' := by
  have HV : Hid (Vars w) := hv
  clear hv
  cases hp : Lib.parseIntB 64 s.data.toList with
  | ok v =>
    have hbd : -9223372036854775808 ≤ v ∧ v ≤ 9223372036854775807 := by have := Lib.parseIntB_bounds hp; omega
    by_cases hi : Lib.itoa v = s.data.toList
    · have HE : Hid (rdec s.data.toList = some v) := rdec_ok hp hi
      have hq : (⟨(Lib.itoa v).toArray⟩ : ByteArray) = s := by rw [hi]
      go_enter Tryz.func127, Tryz.ntmps127
      go_wp2_with (first
        | (go_at_call 161; refine (Tryz.strconv_ParseInt_10_at64_ok s (by omega) v hp _).mono ?_; rintro e w1 ⟨rfl, hw⟩; have hb : Below w.heap.size w w1 := (by rcases hw with rfl | ⟨t, rfl⟩; exact Below.refl _ _; exact Lib.bytesWorld_below _ _ _); have HW1 : Hid (Vars w1) := HV.out.below hb; clear hw)
        | (go_at_call 140; refine (Tryz.strconv_FormatInt_10 v hbd.1 hbd.2 _ HW1.out.1).mono ?_; rintro e w2 ⟨rfl, k, os, rfl⟩; rw [hq]; have hb2 := Lib.below_grow w1.heap.size w1 (Nat.le_refl _) k os))
      all_goals
        refine bodyPost_ret (v := .tuple #[.int .i64 v, .bool true]) ?_ rfl ⟨by rw [HE.out]; rfl, bchain hb hb2⟩
        simp (maxDischargeDepth := 9) [results, Tryz.results127, go_sem, *]
    · have HE : Hid (rdec s.data.toList = none) := rdec_no hp hi
      have hq2 : ¬ Lib.itoa v = s.toList := by rw [ByteArray.toList_eq]; exact hi
      have hq : (Lib.itoa v == s.toList) = false := by simpa using hq2
      go_enter Tryz.func127, Tryz.ntmps127
      go_wp2_with (first
        | (go_at_call 161; refine (Tryz.strconv_ParseInt_10_at64_ok s (by omega) v hp _).mono ?_; rintro e w1 ⟨rfl, hw⟩; have hb : Below w.heap.size w w1 := (by rcases hw with rfl | ⟨t, rfl⟩; exact Below.refl _ _; exact Lib.bytesWorld_below _ _ _); have HW1 : Hid (Vars w1) := HV.out.below hb; clear hw)
        | (go_at_call 140; refine (Tryz.strconv_FormatInt_10 v hbd.1 hbd.2 _ HW1.out.1).mono ?_; rintro e w2 ⟨rfl, k, os, rfl⟩; have hb2 := Lib.below_grow w1.heap.size w1 (Nat.le_refl _) k os))
      all_goals
        refine bodyPost_ret (v := .tuple #[.int .i64 0, .bool false]) ?_ rfl ⟨by rw [HE.out]; rfl, bchain hb hb2⟩
        simp (maxDischargeDepth := 9) [results, Tryz.results127, go_sem, *]
  | «syntax» =>
    obtain ⟨tp, p, h2⟩ := HV.out.2.1
    have HE : Hid (rdec s.data.toList = none) := by show rdec _ = none; rw [rdec, hp]
    have HQ : Hid (w.var? Tryz.prog "strconv.ErrSyntax" = some #[.iface tp p]) := h2
    clear h2
    go_enter Tryz.func127, Tryz.ntmps127
    go_wp2_with (first
      | (go_at_call 161; refine (Tryz.strconv_ParseInt_10_at64_syntax_var s hs hp tp p _ HQ.out).mono ?_; rintro e w1 ⟨N, rfl, hN, hh, hb⟩; clear hh hN))
    all_goals
      refine bodyPost_ret (v := .tuple #[.int .i64 0, .bool false]) ?_ rfl ⟨by rw [HE.out]; rfl, by go_grown⟩
      simp (maxDischargeDepth := 9) [results, Tryz.results127, go_sem, *]
  | range =>
    obtain ⟨tp, p, h2⟩ := HV.out.2.2
    have HE : Hid (rdec s.data.toList = none) := by show rdec _ = none; rw [rdec, hp]
    have HQ : Hid (w.var? Tryz.prog "strconv.ErrRange" = some #[.iface tp p]) := h2
    clear h2
    go_enter Tryz.func127, Tryz.ntmps127
    go_wp2_with (first
      | (go_at_call 161; refine (Tryz.strconv_ParseInt_10_at64_range_var s hs hp tp p _ HQ.out).mono ?_; rintro e w1 ⟨N, rfl, hN, hh, hb⟩; clear hh hN))
    all_goals
      refine bodyPost_ret (v := .tuple #[.int .i64 0, .bool false]) ?_ rfl ⟨by rw [HE.out]; rfl, by go_grown⟩
      simp (maxDischargeDepth := 9) [results, Tryz.results127, go_sem, *]
end Go.Proofs.YtljbnbapmjoecaaGreatDoor
