import Derived.Test.YtjcicndioddcmaaDoorPlaceH
import Derived.Deep.RegionHeld3
namespace Go.Proofs.YtjcicndioddcmaaDoor
open Go.RowKit

theorem ret_val {a b : Value} (h : a = b) : Ending.returned a = .returned b := by rw [h]
/-- The parts of a place's text. -/
def rp1 (s : ByteArray) : ByteArray := cutD s
def rpC (s : ByteArray) : Int := rdc ((cutD s).extract 0 (lets (cutD s))).data.toList 0
def rp2 (s : ByteArray) : ByteArray := (cutD s).extract (lets (cutD s)) (cutD s).size
def rp3 (s : ByteArray) : ByteArray := cutD (rp2 s)
def plOk (c : Int) (o : Option Int) : Bool := o.isSome && refOkB c (o.getD 0)
def sl (b : Bool) (x : Int) : Int := if b then x else 0
def plV (c : Int) (o : Option Int) (x y : Bool) : Value := .tuple #[.agg #[.int .i64 (sl (plOk c o) c), .int .i64 (sl (plOk c o) (o.getD 0)), .bool (plOk c o && x), .bool (plOk c o && y)], .bool (plOk c o)]
theorem rp2_size (s : ByteArray) : (rp2 s).size ≤ s.size := by
  unfold rp2
  rw [ByteArray.size_extract]
  have := cutD_size s
  omega
theorem rp3_size (s : ByteArray) : (rp3 s).size ≤ s.size := Nat.le_trans (cutD_size _) (rp2_size s)

set_option maxHeartbeats 4000000 in
theorem impl_ReadPlace (s : ByteArray) (w : World) (hs : s.size ≤ 1048576) (hv : Vars w) : Calls Tryd.prog 17 #[.string s] w fun e w' =>
    e = .returned (plV (rpC s) (rdec (rp3 s).data.toList) (hasD s) (hasD (rp2 s))) ∧ Below w.heap.size w w' := by
  have HV : Hid (Vars w) := hv
  clear hv
  have z1 := cutD_size s
  have z2 := lets_le (cutD s)
  have HZ2 : Hid ((rp2 s).size ≤ 1048576) := Nat.le_trans (rp2_size s) hs
  have HZ3 : Hid ((rp3 s).size ≤ 1048576) := Nat.le_trans (rp3_size s) hs
  have e0 : (0 : Int) ≤ (lets (cutD s) : Int) := by omega
  have e1 : (lets (cutD s) : Int) ≤ ((cutD s).size : Int) := by omega
  go_enter Tryd.func17, Tryd.ntmps17
  go_wp2_with fail
  refine (lib_CutPrefix s _ (by omega)).mono ?_
  rintro e w1 ⟨rfl, rfl⟩
  go_wp2_with fail
  refine (impl_lettersAhead (cutD s) _ (by omega)).mono ?_
  rintro e w1 ⟨rfl, rfl⟩
  go_wp2_with fail
  refine (impl_ReadCol _ _ (by rw [ByteArray.size_extract]; unfold maxLen; omega)).mono ?_
  rintro e w1 ⟨rfl, rfl⟩
  rw [show rdc ((cutD s).extract 0 (lets (cutD s))).data.toList 0 = rpC s from rfl]
  go_wp2_with fail
  refine (lib_CutPrefix (rp2 s) _ (by have := HZ2.out; omega)).mono ?_
  rintro e w1 ⟨rfl, rfl⟩
  rw [show cutD (rp2 s) = rp3 s from rfl]
  go_wp2_with fail
  refine (impl_readDecimal (rp3 s) _ (by have := HZ3.out; omega) (HV.out.below (by go_grown))).mono ?_
  rintro e w2 ⟨rfl, hb⟩
  obtain ⟨hc, hf, hC, hF, hz, hk, l0⟩ := bk1 (w := w) (by go_grown) (by go_size) hb
  have n0 : ¬ w2.heap.size = w.heap.size := by omega
  clear hb HV e0 e1 z1 z2
  cases ho : rdec (rp3 s).data.toList with
  | none =>
    have HE : Hid (plV (rpC s) (rdec (rp3 s).data.toList) (hasD s) (hasD (rp2 s)) = .tuple #[.agg #[.int .i64 0, .int .i64 0, .bool false, .bool false], .bool false]) := by show plV _ _ _ _ = _; rw [ho]; rfl
    clear ho
    simp only [Option.getD_none, Option.isSome_none]
    go_wp2_with fail
    all_goals
      refine bodyPost_ret (v := .tuple #[.agg #[.int .i64 0, .int .i64 0, .bool false, .bool false], .bool false]) ?_ rfl ⟨ret_val HE.out.symm, by go_grown⟩
      simp (maxDischargeDepth := 9) [results, Tryd.results17, go_sem, *]
  | some v =>
    simp only [Option.getD_some, Option.isSome_some]
    cases hr : refOkB (rpC s) v
    · have HO : Hid (refOkB (rpC s) v = false) := hr
      have HE : Hid (plV (rpC s) (rdec (rp3 s).data.toList) (hasD s) (hasD (rp2 s)) = .tuple #[.agg #[.int .i64 0, .int .i64 0, .bool false, .bool false], .bool false]) := by show plV _ _ _ _ = _; rw [ho]; simp [plV, plOk, hr, sl]
      clear hr ho
      go_wp2_with (first
        | (go_at_call 19; refine (impl_RefOk _ _ _).mono ?_; rintro e w3 ⟨rfl, hb⟩; rw [HO.out]; obtain ⟨hc, hf, hC, hF, hz, hk, l0⟩ := bk1 (w := w) (by go_grown) (by go_size) hb; clear hb))
      all_goals
        refine bodyPost_ret (v := .tuple #[.agg #[.int .i64 0, .int .i64 0, .bool false, .bool false], .bool false]) ?_ rfl ⟨ret_val HE.out.symm, by go_grown⟩
        simp (maxDischargeDepth := 9) [results, Tryd.results17, go_sem, *]
    · have HO : Hid (refOkB (rpC s) v = true) := hr
      have HE : Hid (plV (rpC s) (rdec (rp3 s).data.toList) (hasD s) (hasD (rp2 s)) = .tuple #[.agg #[.int .i64 (rpC s), .int .i64 v, .bool (hasD s), .bool (hasD (rp2 s))], .bool true]) := by show plV _ _ _ _ = _; rw [ho]; simp [plV, plOk, hr, sl]
      clear hr ho
      go_wp2_with (first
        | (go_at_call 19; refine (impl_RefOk _ _ _).mono ?_; rintro e w3 ⟨rfl, hb⟩; rw [HO.out]; obtain ⟨k0, k1, k2, k3⟩ := kp hb; have l2 : w2.heap.size < w3.heap.size := (Nat.lt_of_lt_of_le (by go_size) hb.size); obtain ⟨hc, hf, hC, hF, hz, hk, l0⟩ := bk1 (w := w) (by go_grown) (by go_size) hb; clear hb))
      all_goals
        refine bodyPost_ret (v := .tuple #[.agg #[.int .i64 (rpC s), .int .i64 v, .bool (hasD s), .bool (hasD (rp2 s))], .bool true]) ?_ rfl ⟨ret_val HE.out.symm, by go_grown⟩
        simp (maxDischargeDepth := 9) [results, Tryd.results17, go_sem, *]
end Go.Proofs.YtjcicndioddcmaaDoor
