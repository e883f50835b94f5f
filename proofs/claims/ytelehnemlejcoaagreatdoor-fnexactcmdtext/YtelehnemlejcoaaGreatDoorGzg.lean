import Derived.Test.YtelehnemlejcoaaGreatDoorGzf
import Derived.Test.YtelehnemlejcoaaGreatDoorGas
import Derived.Deep.RegionHeld3
set_option linter.unusedSimpArgs false
set_option linter.unusedVariables false
namespace Go.Proofs.YtelehnemlejcoaaGreatDoor
open Go.RowKit
def wordS (k : Int) : ByteArray := if k = 1 then ⟨#[115, 101, 116]⟩ else if k = 2 then ⟨#[112, 117, 116]⟩ else if k = 3 then ⟨#[117, 110, 108, 101, 115, 115]⟩ else if k = 4 then ⟨#[119, 104, 105, 108, 101]⟩ else ⟨#[97, 98, 111, 114, 116]⟩
def SWD (W : World) : Prop := ∀ k : Nat, 1 ≤ k → k ≤ 5 → W.cell? ⟨0, k, none⟩ = some (.string (wordS k))
def SWG (W : World) : Prop := SWD W ∧ 0 < W.heap.size
theorem SWG.below {W W' : World} (h : SWG W) (hb : Below W.heap.size W W') : SWG W' := ⟨fun k h1 h2 => (hb.cell (p := ⟨0, k, none⟩) h.2).trans (h.1 k h1 h2), Nat.lt_of_lt_of_le h.2 hb.size⟩
def spc : ByteArray := ⟨#[32]⟩
def nlb : ByteArray := ⟨#[10]⟩
def midS (k c r m : Int) : ByteArray := if k = 1 ∨ k = 2 then placeT c r.toNat false false ++ spc else if k = 3 ∨ k = 4 then decS m.toNat ++ spc else ⟨#[]⟩
def lineS (k c r : Int) (t : ByteArray) (m : Int) : ByteArray := wordS k ++ spc ++ midS k c r m ++ t
theorem ba_assocM (x y z : ByteArray) : x ++ y ++ z = x ++ (y ++ z) := ByteArray.append_assoc
theorem ba_nil (x : ByteArray) : x ++ (⟨#[]⟩ : ByteArray) = x := by apply ByteArray.ext; simp
theorem wordS_size (k : Int) : (wordS k).size ≤ 6 := by
  unfold wordS
  split
  · exact (by decide : (⟨#[115, 101, 116]⟩ : ByteArray).size ≤ 6)
  split
  · exact (by decide : (⟨#[112, 117, 116]⟩ : ByteArray).size ≤ 6)
  split
  · exact (by decide : (⟨#[117, 110, 108, 101, 115, 115]⟩ : ByteArray).size ≤ 6)
  split
  · exact (by decide : (⟨#[119, 104, 105, 108, 101]⟩ : ByteArray).size ≤ 6)
  · exact (by decide : (⟨#[97, 98, 111, 114, 116]⟩ : ByteArray).size ≤ 6)
theorem placeT_size (c : Int) (i : Nat) : (placeT c i false false).size ≤ 8 := by
  unfold placeT
  have s1 := fx_size false
  have s3 := colT_size c
  have s4 := decS_size i
  rw [ByteArray.size_append, ByteArray.size_append, ByteArray.size_append]
  omega
theorem midS_size (k c r m : Int) : (midS k c r m).size ≤ 9 := by
  unfold midS
  have h1 := placeT_size c r.toNat
  have h2 := decS_size m.toNat
  have h3 : spc.size = 1 := rfl
  split
  · rw [ByteArray.size_append]; omega
  split
  · rw [ByteArray.size_append]; omega
  · exact Nat.zero_le _
theorem lineS_size (k c r : Int) (t : ByteArray) (m : Int) : (lineS k c r t m).size ≤ t.size + 16 := by
  unfold lineS
  have h1 := wordS_size k
  have h2 := midS_size k c r m
  have h3 : spc.size = 1 := rfl
  rw [ByteArray.size_append, ByteArray.size_append, ByteArray.size_append]
  omega
set_option maxRecDepth 100000 in
set_option maxHeartbeats 1000000 in
theorem impl_decimal (i : Nat) (hi : i < 100) (w : World) : Calls Tryz.prog 15 #[.int .i64 i] w fun e w' => e = .returned (.string (decS i)) ∧ w' = w := by
  go_enter Tryz.func15, Tryz.ntmps15
  go_wp2_with (go_at_call 26; refine (lib_FormatInt i hi _).mono ?_; rintro e w1 ⟨rfl, rfl⟩)
  go_ret
  exact ⟨rfl, rfl⟩
theorem msAt_facts {k c r : Int} {t : ByteArray} {m a b : Int} (h : msAt k c r t m a b = true) : (k = 1 ∧ refOkB c r = true) ∨ (k = 2 ∧ refOkB c r = true) ∨ (k = 3 ∧ c = 0 ∧ r = 0 ∧ 1 ≤ m ∧ m ≤ b) ∨ (k = 4 ∧ c = 0 ∧ r = 0 ∧ 1 ≤ m ∧ m ≤ a) ∨ (k = 5 ∧ c = 0 ∧ r = 0) := by
  unfold msAt zerB at h
  split at h
  · rename_i e
    simp only [Bool.and_eq_true] at h
    exact Or.inl ⟨e, h.1.1⟩
  split at h
  · rename_i e
    simp only [Bool.and_eq_true] at h
    exact Or.inr (Or.inl ⟨e, h.1.1⟩)
  split at h
  · rename_i e
    simp only [Bool.and_eq_true, decide_eq_true_eq] at h
    exact Or.inr (Or.inr (Or.inl ⟨e, h.1.1.1, h.1.1.2, h.2.1, h.2.2⟩))
  split at h
  · rename_i e
    simp only [Bool.and_eq_true, decide_eq_true_eq] at h
    exact Or.inr (Or.inr (Or.inr (Or.inl ⟨e, h.1.1.1, h.1.1.2, h.2.1, h.2.2⟩)))
  split at h
  · rename_i e
    simp only [Bool.and_eq_true, decide_eq_true_eq] at h
    exact Or.inr (Or.inr (Or.inr (Or.inr ⟨e, h.1.1.1, h.1.1.2⟩)))
  · cases h
theorem refOk_nat {c r : Int} (h : refOkB c r = true) : ∃ i : Nat, r = (i : Int) ∧ i < 100 := by
  simp only [refOkB, decide_eq_true_eq] at h
  exact ⟨r.toNat, by omega, by omega⟩
set_option maxRecDepth 100000 in
set_option maxHeartbeats 4000000 in
theorem impl_line (k c r : Int) (t : ByteArray) (m a b : Int) (w : World) (ht : t.size ≤ 1048576) (ha : a < 100) (hb9 : b < 100) (h : msAt k c r t m a b = true) (hw : SWG w) :
    Calls Tryz.prog 27 #[.agg #[.int .i64 k, .int .i64 c, .int .i64 r, .string t, .int .i64 m]] w fun e w' => e = .returned (.string (lineS k c r t m)) ∧ Below w.heap.size w w' := by
  have HSW : Hid (SWG w) := hw
  have hgz := hw.2
  clear hw
  have key : ∀ (K : Nat) (x : ByteArray), 1 ≤ K → K ≤ 5 → x = wordS K → w.cell? ⟨0, K, none⟩ = some (.string x) := fun K x h1 h2 e => by rw [e]; exact HSW.out.1 K h1 h2
  rcases msAt_facts h with ⟨rfl, ho⟩ | ⟨rfl, ho⟩ | ⟨rfl, rfl, rfl, m1, m2⟩ | ⟨rfl, rfl, rfl, m1, m2⟩ | ⟨rfl, rfl, rfl⟩
  · obtain ⟨i, rfl, hi⟩ := refOk_nat ho
    have HO : Hid (refOkB c i = true) := ho
    have c1 := key 1 ⟨#[115, 101, 116]⟩ (by omega) (by omega) rfl
    clear key h ho
    have HP : Hid ((placeT c i false false).size ≤ 8) := placeT_size c i
    have HE : Hid (lineS 1 c i t m = (⟨#[115, 101, 116]⟩ : ByteArray) ++ spc ++ placeT c i false false ++ spc ++ t) := by show _ = _; unfold lineS midS; rw [if_pos (by omega), ← ba_assocM]; rfl
    obtain ⟨p, HPP⟩ : ∃ p : ByteArray, Hid (p = placeT c i false false) := ⟨_, rfl⟩
    rw [← HPP.out] at HE HP
    have hp := HP.out
    obtain ⟨u, HU⟩ : ∃ u : ByteArray, Hid (u = (⟨#[115, 101, 116]⟩ : ByteArray) ++ (⟨#[32]⟩ : ByteArray)) := ⟨_, rfl⟩
    have hu : u.size = 4 := by rw [HU.out]; rfl
    have hU : (⟨#[115, 101, 116]⟩ : ByteArray) ++ (⟨#[32]⟩ : ByteArray) = u := HU.out.symm
    have r1 : ∀ W, (Op.stringOp .add u p).run Tryz.prog W = .ok (.string (u ++ p)) W := fun W => run_string_add_sum W _ _ (by omega)
    have r2 : ∀ W, (Op.stringOp .add (u ++ p) ⟨#[32]⟩).run Tryz.prog W = .ok (.string (u ++ p ++ ⟨#[32]⟩)) W := fun W => run_string_add_sum W _ _ (by rw [ByteArray.size_append]; have : (⟨#[32]⟩ : ByteArray).size = 1 := rfl; omega)
    have r3 : ∀ W, (Op.stringOp .add (u ++ p ++ ⟨#[32]⟩) t).run Tryz.prog W = .ok (.string (u ++ p ++ ⟨#[32]⟩ ++ t)) W := fun W => run_string_add_sum W _ _ (by rw [ByteArray.size_append, ByteArray.size_append]; have : (⟨#[32]⟩ : ByteArray).size = 1 := rfl; omega)
    have HE2 : Hid (lineS 1 c i t m = u ++ p ++ ⟨#[32]⟩ ++ t) := by show _ = _; rw [HE.out, HU.out]; rfl
    go_enter Tryz.func27, Tryz.ntmps27
    go_wp2_with fail
    go_region_held3 (fun w' => (∀ bq oq, bq < w.heap.size + 1 → w'.cell? ⟨bq, oq, none⟩ = (w.alloc (.cells #[.int .i64 1, .int .i64 c, .int .i64 i, .string t, .int .i64 m] 51)).cell? ⟨bq, oq, none⟩) ∧ w.heap.size + 1 ≤ w'.heap.size ∧ Below (w.heap.size + 1) (w.alloc (.cells #[.int .i64 1, .int .i64 c, .int .i64 i, .string t, .int .i64 m] 51)) w')
      (exact sc_of (by go_size) (by go_grown))
      (first
      | (go_at_call 36; refine (impl_PlaceText_ok c i false false _ hi HO.out).mono ?_; rintro e w1 ⟨rfl, hb⟩; rw [← HPP.out]; obtain ⟨hk1, hz1⟩ := bframe (B := w.heap.size + 1) (X := (w.alloc (.cells #[.int .i64 1, .int .i64 c, .int .i64 i, .string t, .int .i64 m] 51))) (by go_grown) (by go_size) hb; have hC := fun b o h => hk1.cell (p := ⟨b, o, none⟩) h; clear hb))
    all_goals go_wp2_with fail
    all_goals go_ret
    all_goals exact ⟨ret_str HE2.out.symm, bfin (n := 1) (X := (w.alloc (.cells #[.int .i64 1, .int .i64 c, .int .i64 i, .string t, .int .i64 m] 51))) (by go_grown) (by go_grown)⟩
  · obtain ⟨i, rfl, hi⟩ := refOk_nat ho
    have HO : Hid (refOkB c i = true) := ho
    have c1 := key 2 ⟨#[112, 117, 116]⟩ (by omega) (by omega) rfl
    clear key h ho
    have HP : Hid ((placeT c i false false).size ≤ 8) := placeT_size c i
    have HE : Hid (lineS 2 c i t m = (⟨#[112, 117, 116]⟩ : ByteArray) ++ spc ++ placeT c i false false ++ spc ++ t) := by show _ = _; unfold lineS midS; rw [if_pos (by omega), ← ba_assocM]; rfl
    obtain ⟨p, HPP⟩ : ∃ p : ByteArray, Hid (p = placeT c i false false) := ⟨_, rfl⟩
    rw [← HPP.out] at HE HP
    have hp := HP.out
    obtain ⟨u, HU⟩ : ∃ u : ByteArray, Hid (u = (⟨#[112, 117, 116]⟩ : ByteArray) ++ (⟨#[32]⟩ : ByteArray)) := ⟨_, rfl⟩
    have hu : u.size = 4 := by rw [HU.out]; rfl
    have hU : (⟨#[112, 117, 116]⟩ : ByteArray) ++ (⟨#[32]⟩ : ByteArray) = u := HU.out.symm
    have r1 : ∀ W, (Op.stringOp .add u p).run Tryz.prog W = .ok (.string (u ++ p)) W := fun W => run_string_add_sum W _ _ (by omega)
    have r2 : ∀ W, (Op.stringOp .add (u ++ p) ⟨#[32]⟩).run Tryz.prog W = .ok (.string (u ++ p ++ ⟨#[32]⟩)) W := fun W => run_string_add_sum W _ _ (by rw [ByteArray.size_append]; have : (⟨#[32]⟩ : ByteArray).size = 1 := rfl; omega)
    have r3 : ∀ W, (Op.stringOp .add (u ++ p ++ ⟨#[32]⟩) t).run Tryz.prog W = .ok (.string (u ++ p ++ ⟨#[32]⟩ ++ t)) W := fun W => run_string_add_sum W _ _ (by rw [ByteArray.size_append, ByteArray.size_append]; have : (⟨#[32]⟩ : ByteArray).size = 1 := rfl; omega)
    have HE2 : Hid (lineS 2 c i t m = u ++ p ++ ⟨#[32]⟩ ++ t) := by show _ = _; rw [HE.out, HU.out]; rfl
    go_enter Tryz.func27, Tryz.ntmps27
    go_wp2_with fail
    go_region_held3 (fun w' => (∀ bq oq, bq < w.heap.size + 1 → w'.cell? ⟨bq, oq, none⟩ = (w.alloc (.cells #[.int .i64 2, .int .i64 c, .int .i64 i, .string t, .int .i64 m] 51)).cell? ⟨bq, oq, none⟩) ∧ w.heap.size + 1 ≤ w'.heap.size ∧ Below (w.heap.size + 1) (w.alloc (.cells #[.int .i64 2, .int .i64 c, .int .i64 i, .string t, .int .i64 m] 51)) w')
      (exact sc_of (by go_size) (by go_grown))
      (first
      | (go_at_call 36; refine (impl_PlaceText_ok c i false false _ hi HO.out).mono ?_; rintro e w1 ⟨rfl, hb⟩; rw [← HPP.out]; obtain ⟨hk1, hz1⟩ := bframe (B := w.heap.size + 1) (X := (w.alloc (.cells #[.int .i64 2, .int .i64 c, .int .i64 i, .string t, .int .i64 m] 51))) (by go_grown) (by go_size) hb; have hC := fun b o h => hk1.cell (p := ⟨b, o, none⟩) h; clear hb))
    all_goals go_wp2_with fail
    all_goals go_ret
    all_goals exact ⟨ret_str HE2.out.symm, bfin (n := 1) (X := (w.alloc (.cells #[.int .i64 2, .int .i64 c, .int .i64 i, .string t, .int .i64 m] 51))) (by go_grown) (by go_grown)⟩
  · obtain ⟨i, rfl, hi⟩ : ∃ i : Nat, m = (i : Int) ∧ i < 100 := ⟨m.toNat, by omega, by omega⟩
    have c1 := key 3 ⟨#[117, 110, 108, 101, 115, 115]⟩ (by omega) (by omega) rfl
    clear key h
    have HP : Hid ((decS i).size ≤ 2) := decS_size i
    have HE : Hid (lineS 3 0 0 t i = (⟨#[117, 110, 108, 101, 115, 115]⟩ : ByteArray) ++ spc ++ decS i ++ spc ++ t) := by show _ = _; unfold lineS midS; rw [if_neg (by omega), if_pos (by omega), ← ba_assocM]; rfl
    obtain ⟨p, HPP⟩ : ∃ p : ByteArray, Hid (p = decS i) := ⟨_, rfl⟩
    rw [← HPP.out] at HE HP
    have hp := HP.out
    obtain ⟨u, HU⟩ : ∃ u : ByteArray, Hid (u = (⟨#[117, 110, 108, 101, 115, 115]⟩ : ByteArray) ++ (⟨#[32]⟩ : ByteArray)) := ⟨_, rfl⟩
    have hu : u.size = 7 := by rw [HU.out]; rfl
    have hU : (⟨#[117, 110, 108, 101, 115, 115]⟩ : ByteArray) ++ (⟨#[32]⟩ : ByteArray) = u := HU.out.symm
    have r1 : ∀ W, (Op.stringOp .add u p).run Tryz.prog W = .ok (.string (u ++ p)) W := fun W => run_string_add_sum W _ _ (by omega)
    have r2 : ∀ W, (Op.stringOp .add (u ++ p) ⟨#[32]⟩).run Tryz.prog W = .ok (.string (u ++ p ++ ⟨#[32]⟩)) W := fun W => run_string_add_sum W _ _ (by rw [ByteArray.size_append]; have : (⟨#[32]⟩ : ByteArray).size = 1 := rfl; omega)
    have r3 : ∀ W, (Op.stringOp .add (u ++ p ++ ⟨#[32]⟩) t).run Tryz.prog W = .ok (.string (u ++ p ++ ⟨#[32]⟩ ++ t)) W := fun W => run_string_add_sum W _ _ (by rw [ByteArray.size_append, ByteArray.size_append]; have : (⟨#[32]⟩ : ByteArray).size = 1 := rfl; omega)
    have HE2 : Hid (lineS 3 0 0 t i = u ++ p ++ ⟨#[32]⟩ ++ t) := by show _ = _; rw [HE.out, HU.out]; rfl
    go_enter Tryz.func27, Tryz.ntmps27
    go_wp2_with fail
    go_region_held3 (fun w' => (∀ bq oq, bq < w.heap.size + 1 → w'.cell? ⟨bq, oq, none⟩ = (w.alloc (.cells #[.int .i64 3, .int .i64 0, .int .i64 0, .string t, .int .i64 i] 51)).cell? ⟨bq, oq, none⟩) ∧ w.heap.size + 1 ≤ w'.heap.size ∧ Below (w.heap.size + 1) (w.alloc (.cells #[.int .i64 3, .int .i64 0, .int .i64 0, .string t, .int .i64 i] 51)) w')
      (exact sc_of (by go_size) (by go_grown))
      (first
      | (go_at_call 15; refine (impl_decimal i hi _).mono ?_; rintro e w1 ⟨rfl, rfl⟩; rw [← HPP.out]))
    all_goals go_wp2_with fail
    all_goals go_ret
    all_goals exact ⟨ret_str HE2.out.symm, bfin (n := 1) (X := (w.alloc (.cells #[.int .i64 3, .int .i64 0, .int .i64 0, .string t, .int .i64 i] 51))) (by go_grown) (by go_grown)⟩
  · obtain ⟨i, rfl, hi⟩ : ∃ i : Nat, m = (i : Int) ∧ i < 100 := ⟨m.toNat, by omega, by omega⟩
    have c1 := key 4 ⟨#[119, 104, 105, 108, 101]⟩ (by omega) (by omega) rfl
    clear key h
    have HP : Hid ((decS i).size ≤ 2) := decS_size i
    have HE : Hid (lineS 4 0 0 t i = (⟨#[119, 104, 105, 108, 101]⟩ : ByteArray) ++ spc ++ decS i ++ spc ++ t) := by show _ = _; unfold lineS midS; rw [if_neg (by omega), if_pos (by omega), ← ba_assocM]; rfl
    obtain ⟨p, HPP⟩ : ∃ p : ByteArray, Hid (p = decS i) := ⟨_, rfl⟩
    rw [← HPP.out] at HE HP
    have hp := HP.out
    obtain ⟨u, HU⟩ : ∃ u : ByteArray, Hid (u = (⟨#[119, 104, 105, 108, 101]⟩ : ByteArray) ++ (⟨#[32]⟩ : ByteArray)) := ⟨_, rfl⟩
    have hu : u.size = 6 := by rw [HU.out]; rfl
    have hU : (⟨#[119, 104, 105, 108, 101]⟩ : ByteArray) ++ (⟨#[32]⟩ : ByteArray) = u := HU.out.symm
    have r1 : ∀ W, (Op.stringOp .add u p).run Tryz.prog W = .ok (.string (u ++ p)) W := fun W => run_string_add_sum W _ _ (by omega)
    have r2 : ∀ W, (Op.stringOp .add (u ++ p) ⟨#[32]⟩).run Tryz.prog W = .ok (.string (u ++ p ++ ⟨#[32]⟩)) W := fun W => run_string_add_sum W _ _ (by rw [ByteArray.size_append]; have : (⟨#[32]⟩ : ByteArray).size = 1 := rfl; omega)
    have r3 : ∀ W, (Op.stringOp .add (u ++ p ++ ⟨#[32]⟩) t).run Tryz.prog W = .ok (.string (u ++ p ++ ⟨#[32]⟩ ++ t)) W := fun W => run_string_add_sum W _ _ (by rw [ByteArray.size_append, ByteArray.size_append]; have : (⟨#[32]⟩ : ByteArray).size = 1 := rfl; omega)
    have HE2 : Hid (lineS 4 0 0 t i = u ++ p ++ ⟨#[32]⟩ ++ t) := by show _ = _; rw [HE.out, HU.out]; rfl
    go_enter Tryz.func27, Tryz.ntmps27
    go_wp2_with fail
    go_region_held3 (fun w' => (∀ bq oq, bq < w.heap.size + 1 → w'.cell? ⟨bq, oq, none⟩ = (w.alloc (.cells #[.int .i64 4, .int .i64 0, .int .i64 0, .string t, .int .i64 i] 51)).cell? ⟨bq, oq, none⟩) ∧ w.heap.size + 1 ≤ w'.heap.size ∧ Below (w.heap.size + 1) (w.alloc (.cells #[.int .i64 4, .int .i64 0, .int .i64 0, .string t, .int .i64 i] 51)) w')
      (exact sc_of (by go_size) (by go_grown))
      (first
      | (go_at_call 15; refine (impl_decimal i hi _).mono ?_; rintro e w1 ⟨rfl, rfl⟩; rw [← HPP.out]))
    all_goals go_wp2_with fail
    all_goals go_ret
    all_goals exact ⟨ret_str HE2.out.symm, bfin (n := 1) (X := (w.alloc (.cells #[.int .i64 4, .int .i64 0, .int .i64 0, .string t, .int .i64 i] 51))) (by go_grown) (by go_grown)⟩
  · have c1 := key 5 ⟨#[97, 98, 111, 114, 116]⟩ (by omega) (by omega) rfl
    clear key h
    obtain ⟨u, HU⟩ : ∃ u : ByteArray, Hid (u = (⟨#[97, 98, 111, 114, 116]⟩ : ByteArray) ++ (⟨#[32]⟩ : ByteArray)) := ⟨_, rfl⟩
    have hu : u.size = 6 := by rw [HU.out]; rfl
    have hU : (⟨#[97, 98, 111, 114, 116]⟩ : ByteArray) ++ (⟨#[32]⟩ : ByteArray) = u := HU.out.symm
    have HE2 : Hid (lineS 5 0 0 t m = u ++ t) := by show _ = _; unfold lineS midS; rw [if_neg (by omega), if_neg (by omega), ba_nil, HU.out]; rfl
    have q1 : ¬ 9223372036854775807 < u.size + t.size := by omega
    go_enter Tryz.func27, Tryz.ntmps27
    go_wp2_with fail
    go_ret
    exact ⟨ret_str HE2.out.symm, by go_grown⟩
def mtT (K C R : Nat → Int) (T : Nat → ByteArray) (M : Nat → Int) : Nat → ByteArray
  | 0 => ⟨#[]⟩
  | n + 1 => mtT K C R T M n ++ (lineS (K n) (C n) (R n) (T n) (M n) ++ nlb)
theorem mtT_size {K C R : Nat → Int} {T : Nat → ByteArray} {M : Nat → Int} : ∀ n : Nat, (∀ i, i < n → (T i).size ≤ 1048576) → (mtT K C R T M n).size ≤ n * 1048593
  | 0, _ => Nat.zero_le _
  | n + 1, h => by
    have h1 := mtT_size (K := K) (C := C) (R := R) (M := M) n (fun i hi => h i (by omega))
    have h2 := lineS_size (K n) (C n) (R n) (T n) (M n)
    have h3 := h n (by omega)
    have h4 : nlb.size = 1 := rfl
    rw [mtT, ByteArray.size_append, ByteArray.size_append]
    omega
def mtO (K C R : Nat → Int) (T : Nat → ByteArray) (M : Nat → Int) (n : Nat) : ByteArray := if msOkB K C R T M n then mtT K C R T M n else ⟨#[]⟩
theorem msOk_all {K C R : Nat → Int} {T : Nat → ByteArray} {M : Nat → Int} {n : Nat} (h : msOkB K C R T M n = true) : n ≤ 30 ∧ ∀ i, i < n → msAt (K i) (C i) (R i) (T i) (M i) i ((n : Int) - 1 - i) = true := by
  unfold msOkB at h
  simp only [Bool.and_eq_true, decide_eq_true_eq, List.all_eq_true, List.mem_range] at h
  exact h
set_option maxRecDepth 100000 in
set_option maxHeartbeats 4000000 in
theorem impl_MacroText {A : Option Addr} {n cap : Nat} {K C R : Nat → Int} {T : Nat → ByteArray} {M : Nat → Int} (w : World) (h : MsRow w A n K C R T M) (hT : ∀ i, i < n → (T i).size ≤ 1048576) (hg : GI w) (hsw : SWG w) :
    Calls Tryz.prog 16 #[.slice A n cap] w fun e w' => e = .returned (.string (mtO K C R T M n)) ∧ Below w.heap.size w w' := by
  have HR : Hid (MsRow w A n K C R T M) := h
  have HG : Hid (GI w) := hg
  have HSW : Hid (SWG w) := hsw
  have HT : Hid (∀ i, i < n → (T i).size ≤ 1048576) := hT
  have hn := h.1
  unfold maxLen at hn
  clear h hg hT hsw
  cases hok : msOkB K C R T M n
  · have HOK : Hid (msOkB K C R T M n = false) := hok
    have HF : Hid (mtO K C R T M n = ⟨#[]⟩) := by show _ = _; unfold mtO; rw [hok]; exact (rfl : _ = _)
    clear hok
    go_enter Tryz.func16, Tryz.ntmps16
    go_wp2_with (go_at_call 25; refine (impl_MacroOk _ HR.out HT.out HG.out).mono ?_; rintro e w1 ⟨rfl, hb⟩; rw [HOK.out])
    go_ret
    exact ⟨ret_str HF.out.symm, hb⟩
  have HOK : Hid (msOkB K C R T M n = true) := hok
  have HF : Hid (mtO K C R T M n = mtT K C R T M n) := by show _ = _; unfold mtO; rw [hok, if_pos rfl]
  obtain ⟨hn30, hall⟩ := msOk_all hok
  have HALL : Hid (∀ i, i < n → msAt (K i) (C i) (R i) (T i) (M i) i ((n : Int) - 1 - i) = true) := hall
  clear hok hall
  go_enter Tryz.func16, Tryz.ntmps16
  go_wp2_with (go_at_call 25; refine (impl_MacroOk _ HR.out HT.out HG.out).mono ?_; rintro e w1 ⟨rfl, hb1⟩; rw [HOK.out])
  go_loopw [3, 11] (fun s i wr => ∃ k : Nat, k ≤ n ∧ i = .int .i64 k ∧ s = .string (mtT K C R T M k) ∧ Below w.heap.size w wr) (fun _ i _ => n - (intOf i).toNat)
  case atStart => exact ⟨0, Nat.zero_le _, rfl, rfl, hb1⟩
  case round =>
    clear hb1
    obtain ⟨k, hk, rfl, rfl, hbel⟩ := hrel
    by_cases hlt : k < n
    · obtain ⟨b, o, rfl, hl, c0, c1, c2, c3, c4, _⟩ := HR.out.2 k hlt
      have HTk : Hid ((T k).size ≤ 1048576) := HT.out k hlt
      have HM : Hid (_ = _) := HALL.out k hlt
      have hs := hbel.size
      have HSr : Hid (SWG wr) := HSW.out.below hbel
      have HZ : Hid ((mtT K C R T M k).size ≤ 31457790) := by have := mtT_size (K := K) (C := C) (R := R) (M := M) k (fun i hi => HT.out i (by omega)); exact (by omega : (mtT K C R T M k).size ≤ 31457790)
      have HL : Hid ((lineS (K k) (C k) (R k) (T k) (M k)).size ≤ 1048592) := by have h1 := lineS_size (K k) (C k) (R k) (T k) (M k); have h2 := HTk.out; exact (by omega : (lineS (K k) (C k) (R k) (T k) (M k)).size ≤ 1048592)
      have HN : Hid (mtT K C R T M (k + 1) = mtT K C R T M k ++ (lineS (K k) (C k) (R k) (T k) (M k) ++ ⟨#[10]⟩)) := rfl
      rw [← hbel.cell (p := ⟨_, _, none⟩) hl] at c0 c1 c2 c3 c4
      have hl2 : b < wr.heap.size := Nat.lt_of_lt_of_le hl hs
      have h0 : (0 : Int) ≤ (k : Int) := by omega
      have h1 : (k : Int) < (n : Int) := by omega
      obtain ⟨s, HS⟩ : ∃ s : ByteArray, Hid (s = mtT K C R T M k) := ⟨_, rfl⟩
      obtain ⟨l, HLL⟩ : ∃ l : ByteArray, Hid (l = lineS (K k) (C k) (R k) (T k) (M k)) := ⟨_, rfl⟩
      rw [← HS.out] at HZ HN ⊢
      rw [← HLL.out] at HL HN
      have hz := HZ.out
      have hl9 := HL.out
      have e1 : (⟨#[10]⟩ : ByteArray).size = 1 := rfl
      have r1 : ∀ W, (Op.stringOp .add l ⟨#[10]⟩).run Tryz.prog W = .ok (.string (l ++ ⟨#[10]⟩)) W := fun W => run_string_add_sum W _ _ (by omega)
      have r2 : ∀ W, (Op.stringOp .add s (l ++ ⟨#[10]⟩)).run Tryz.prog W = .ok (.string (s ++ (l ++ ⟨#[10]⟩))) W := fun W => run_string_add_sum W _ _ (by rw [ByteArray.size_append]; omega)
      have q1 : ¬ 9223372036854775807 < l.size + 1 := by omega
      have q2 : ¬ 9223372036854775807 < s.size + (l ++ (⟨#[10]⟩ : ByteArray)).size := by rw [ByteArray.size_append]; omega
      have q3 : ¬ 9223372036854775807 < s.size + (l.size + 1) := by omega
      go_wp2_with (go_at_call 27; refine (impl_line _ _ _ _ _ _ _ _ HTk.out (by omega) (by omega) HM.out (HSr.out.below (by go_grown))).mono ?_; rintro e w2 ⟨rfl, hb⟩; rw [← HLL.out]; have hk1 := bchain (w := wr) (by go_grown) hb; clear hb)
      go_roundw
      case rel => exact ⟨k + 1, by omega, by go_num, by rw [HN.out], bchain hbel (by go_grown)⟩
      case measure => simp [intOf]; omega
    · have h1 : ¬ (k : Int) < (n : Int) := by omega
      obtain rfl : k = n := by omega
      go_wp2_with fail
      go_ret
      exact ⟨ret_str HF.out.symm, hbel⟩
end Go.Proofs.YtelehnemlejcoaaGreatDoor
namespace Go.Proofs.YtelehnemlejcoaaGreatDoor
open Go.RowKit
theorem cat_all (s w v p x : ByteArray) : s ++ (w ++ v ++ (p ++ (⟨#[32]⟩ : ByteArray)) ++ x ++ nlb) = s ++ (w ++ v) ++ p ++ ⟨#[32]⟩ ++ x ++ ⟨#[10]⟩ := by
  apply ByteArray.ext
  simp [nlb, Array.append_assoc]
theorem cat_five (s w v x : ByteArray) : s ++ (w ++ v ++ (⟨#[]⟩ : ByteArray) ++ x ++ nlb) = s ++ (w ++ v) ++ x ++ ⟨#[10]⟩ := by
  apply ByteArray.ext
  simp [nlb, Array.append_assoc]
set_option maxRecDepth 100000 in
set_option maxHeartbeats 2000000 in
theorem spec_PlaceText_noM (c r : Int) (x y : Bool) (w : World) (ho : refOkB c r = false) : Calls Tryz.prog 22 #[.agg #[.int .i64 c, .int .i64 r, .bool x, .bool y]] w fun e w' =>
    e = .returned (.string ⟨#[]⟩) ∧ Below w.heap.size w w' := by
  have HO : Hid (refOkB c r = false) := ho
  clear ho
  go_enter Tryz.func22, Tryz.ntmps22
  go_wp2_with (first
    | (go_at_call 29; refine (spec_RefOk _ _ _).mono ?_; rintro e w1 ⟨rfl, hb⟩; rw [HO.out]; obtain ⟨hc, hf, hC, hF, hz, hk, l0⟩ := bk1 (w := w) (by go_grown) (by go_size) hb; clear hb))
  go_ret
  exact ⟨rfl, by go_grown⟩
set_option maxRecDepth 100000 in
set_option maxHeartbeats 8000000 in
theorem spec_MacroText {A : Option Addr} {n cap : Nat} {K C R : Nat → Int} {T : Nat → ByteArray} {M : Nat → Int} (w : World) (h : MsRow w A n K C R T M) (hT : ∀ i, i < n → (T i).size ≤ 1048576) :
    Calls Tryz.prog 12 #[.slice A n cap] w fun e w' => e = .returned (.string (mtO K C R T M n)) ∧ Below w.heap.size w w' := by
  have HR : Hid (MsRow w A n K C R T M) := h
  have HT : Hid (∀ i, i < n → (T i).size ≤ 1048576) := hT
  have hn := h.1
  unfold maxLen at hn
  clear h hT
  cases hok : msOkB K C R T M n
  · have HOK : Hid (msOkB K C R T M n = false) := hok
    have HF : Hid (mtO K C R T M n = ⟨#[]⟩) := by show _ = _; unfold mtO; rw [hok]; exact (rfl : _ = _)
    clear hok
    go_enter Tryz.func12, Tryz.ntmps12
    go_wp2_with (go_at_call 21; refine (spec_MacroOk _ HR.out HT.out).mono ?_; rintro e w1 ⟨rfl, hb⟩; rw [HOK.out])
    go_ret
    exact ⟨ret_str HF.out.symm, hb⟩
  have HOK : Hid (msOkB K C R T M n = true) := hok
  have HF : Hid (mtO K C R T M n = mtT K C R T M n) := by show _ = _; unfold mtO; rw [hok, if_pos rfl]
  obtain ⟨hn30, hall⟩ := msOk_all hok
  have HALL : Hid (∀ i, i < n → msAt (K i) (C i) (R i) (T i) (M i) i ((n : Int) - 1 - i) = true) := hall
  clear hok hall
  go_enter Tryz.func12, Tryz.ntmps12
  go_wp2_with (go_at_call 21; refine (spec_MacroOk _ HR.out HT.out).mono ?_; rintro e w1 ⟨rfl, hb1⟩; rw [HOK.out])
  go_loopw [3, 4] (fun s i wr => ∃ k : Nat, k ≤ n ∧ i = .int .i64 k ∧ s = .string (mtT K C R T M k) ∧ Below w.heap.size w wr) (fun _ i _ => n - (intOf i).toNat)
  case atStart => exact ⟨0, Nat.zero_le _, rfl, rfl, hb1⟩
  case round =>
    clear hb1
    obtain ⟨k, hk0, rfl, rfl, hbel⟩ := hrel
    by_cases hlt : k < n
    · obtain ⟨b, o, rfl, hl, c0, c1, c2, c3, c4, _⟩ := HR.out.2 k hlt
      have HTk : Hid ((T k).size ≤ 1048576) := HT.out k hlt
      have hM := HALL.out k hlt
      have hs := hbel.size
      have HZ : Hid ((mtT K C R T M k).size ≤ 31457790) := by have := mtT_size (K := K) (C := C) (R := R) (M := M) k (fun i hi => HT.out i (by omega)); exact (by omega : (mtT K C R T M k).size ≤ 31457790)
      have HN0 : Hid (mtT K C R T M (k + 1) = mtT K C R T M k ++ (lineS (K k) (C k) (R k) (T k) (M k) ++ nlb)) := rfl
      rw [← hbel.cell (p := ⟨_, _, none⟩) hl] at c0 c1 c2 c3 c4
      have hl2 : b < wr.heap.size := Nat.lt_of_lt_of_le hl hs
      have h0 : (0 : Int) ≤ (k : Int) := by omega
      have h1 : (k : Int) < (n : Int) := by omega
      obtain ⟨s, HS⟩ : ∃ s : ByteArray, Hid (s = mtT K C R T M k) := ⟨_, rfl⟩
      obtain ⟨x, HX⟩ : ∃ x : ByteArray, Hid (x = T k) := ⟨_, rfl⟩
      rw [← HS.out] at HZ HN0 ⊢
      rw [← HX.out] at HTk HN0 c3
      have hz0 := HZ.out
      have hx := HTk.out
      have e10 : (⟨#[10]⟩ : ByteArray).size = 1 := rfl
      have e32 : (⟨#[32]⟩ : ByteArray).size = 1 := rfl
      rcases msAt_facts hM with ⟨hK, ho⟩ | ⟨hK, ho⟩ | ⟨hK, hC0, hR0, m1, m2⟩ | ⟨hK, hC0, hR0, m1, m2⟩ | ⟨hK, hC0, hR0⟩
      · rw [hK] at c0
        obtain ⟨i, hRi, hi⟩ := refOk_nat ho
        rw [hRi] at c2
        have HO : Hid (refOkB (C k) i = true) := by rw [hRi] at ho; exact ho
        have HN : Hid (mtT K C R T M (k + 1) = s ++ ⟨#[115, 101, 116, 32]⟩ ++ placeT (C k) i false false ++ ⟨#[32]⟩ ++ x ++ ⟨#[10]⟩) := by
          show _ = _
          rw [HN0.out, hK, hRi]
          unfold lineS midS; rw [if_pos (by omega)]; exact cat_all _ _ _ _ _
        have hp : (placeT (C k) i false false).size ≤ 8 := placeT_size _ _
        obtain ⟨p, HPP⟩ : ∃ p : ByteArray, Hid (p = placeT (C k) i false false) := ⟨_, rfl⟩
        rw [← HPP.out] at HN hp
        clear ho hK hRi
        obtain ⟨u, HU⟩ : ∃ u : ByteArray, Hid (u = ⟨#[115, 101, 116, 32]⟩) := ⟨_, rfl⟩
        have hu : u.size = 4 := by rw [HU.out]; rfl
        have a1 : ∀ W, (Op.stringOp .add s ⟨#[115, 101, 116, 32]⟩).run Tryz.prog W = .ok (.string (s ++ u)) W := fun W => by rw [← HU.out]; exact run_string_add_sum W _ _ (by omega)
        have a2 : ∀ W, (Op.stringOp .add (s ++ u) p).run Tryz.prog W = .ok (.string (s ++ u ++ p)) W := fun W => run_string_add_sum W _ _ (by rw [ByteArray.size_append]; omega)
        have a3 : ∀ W, (Op.stringOp .add (s ++ u ++ p) ⟨#[32]⟩).run Tryz.prog W = .ok (.string (s ++ u ++ p ++ ⟨#[32]⟩)) W := fun W => run_string_add_sum W _ _ (by rw [ByteArray.size_append, ByteArray.size_append]; omega)
        have a4 : ∀ W, (Op.stringOp .add (s ++ u ++ p ++ ⟨#[32]⟩) x).run Tryz.prog W = .ok (.string (s ++ u ++ p ++ ⟨#[32]⟩ ++ x)) W := fun W => run_string_add_sum W _ _ (by rw [ByteArray.size_append, ByteArray.size_append, ByteArray.size_append]; omega)
        have a5 : ∀ W, (Op.stringOp .add (s ++ u ++ p ++ ⟨#[32]⟩ ++ x) ⟨#[10]⟩).run Tryz.prog W = .ok (.string (s ++ u ++ p ++ ⟨#[32]⟩ ++ x ++ ⟨#[10]⟩)) W := fun W => run_string_add_sum W _ _ (by rw [ByteArray.size_append, ByteArray.size_append, ByteArray.size_append, ByteArray.size_append]; omega)
        rw [← HU.out] at HN
        go_wp2_with (go_at_call 22; refine (spec_PlaceText_ok (C k) i false false _ hi HO.out).mono ?_; rintro e w1 ⟨rfl, hb⟩; rw [← HPP.out]; obtain ⟨hc, hf, hC, hF, hz, hk, l0⟩ := bk1 (w := wr) (by go_grown) (by go_size) hb; clear hb)
        all_goals
          go_roundw
          case rel => exact ⟨k + 1, by omega, by go_num, by rw [HN.out], bchain hbel (by go_grown)⟩
          case measure => simp [intOf]; omega
      · rw [hK] at c0
        obtain ⟨i, hRi, hi⟩ := refOk_nat ho
        rw [hRi] at c2
        have HO : Hid (refOkB (C k) i = true) := by rw [hRi] at ho; exact ho
        have HN : Hid (mtT K C R T M (k + 1) = s ++ ⟨#[112, 117, 116, 32]⟩ ++ placeT (C k) i false false ++ ⟨#[32]⟩ ++ x ++ ⟨#[10]⟩) := by
          show _ = _
          rw [HN0.out, hK, hRi]
          unfold lineS midS; rw [if_pos (by omega)]; exact cat_all _ _ _ _ _
        have hp : (placeT (C k) i false false).size ≤ 8 := placeT_size _ _
        obtain ⟨p, HPP⟩ : ∃ p : ByteArray, Hid (p = placeT (C k) i false false) := ⟨_, rfl⟩
        rw [← HPP.out] at HN hp
        clear ho hK hRi
        obtain ⟨u, HU⟩ : ∃ u : ByteArray, Hid (u = ⟨#[112, 117, 116, 32]⟩) := ⟨_, rfl⟩
        have hu : u.size = 4 := by rw [HU.out]; rfl
        have a1 : ∀ W, (Op.stringOp .add s ⟨#[112, 117, 116, 32]⟩).run Tryz.prog W = .ok (.string (s ++ u)) W := fun W => by rw [← HU.out]; exact run_string_add_sum W _ _ (by omega)
        have a2 : ∀ W, (Op.stringOp .add (s ++ u) p).run Tryz.prog W = .ok (.string (s ++ u ++ p)) W := fun W => run_string_add_sum W _ _ (by rw [ByteArray.size_append]; omega)
        have a3 : ∀ W, (Op.stringOp .add (s ++ u ++ p) ⟨#[32]⟩).run Tryz.prog W = .ok (.string (s ++ u ++ p ++ ⟨#[32]⟩)) W := fun W => run_string_add_sum W _ _ (by rw [ByteArray.size_append, ByteArray.size_append]; omega)
        have a4 : ∀ W, (Op.stringOp .add (s ++ u ++ p ++ ⟨#[32]⟩) x).run Tryz.prog W = .ok (.string (s ++ u ++ p ++ ⟨#[32]⟩ ++ x)) W := fun W => run_string_add_sum W _ _ (by rw [ByteArray.size_append, ByteArray.size_append, ByteArray.size_append]; omega)
        have a5 : ∀ W, (Op.stringOp .add (s ++ u ++ p ++ ⟨#[32]⟩ ++ x) ⟨#[10]⟩).run Tryz.prog W = .ok (.string (s ++ u ++ p ++ ⟨#[32]⟩ ++ x ++ ⟨#[10]⟩)) W := fun W => run_string_add_sum W _ _ (by rw [ByteArray.size_append, ByteArray.size_append, ByteArray.size_append, ByteArray.size_append]; omega)
        rw [← HU.out] at HN
        go_wp2_with (go_at_call 22; refine (spec_PlaceText_ok (C k) i false false _ hi HO.out).mono ?_; rintro e w1 ⟨rfl, hb⟩; rw [← HPP.out]; obtain ⟨hc, hf, hC, hF, hz, hk, l0⟩ := bk1 (w := wr) (by go_grown) (by go_size) hb; clear hb)
        all_goals
          go_roundw
          case rel => exact ⟨k + 1, by omega, by go_num, by rw [HN.out], bchain hbel (by go_grown)⟩
          case measure => simp [intOf]; omega
      · rw [hK] at c0
        rw [hC0] at c1
        rw [hR0] at c2
        obtain ⟨i, hMi, hi⟩ : ∃ i : Nat, M k = (i : Int) ∧ i < 100 := ⟨(M k).toNat, by omega, by omega⟩
        rw [hMi] at c4
        have HN : Hid (mtT K C R T M (k + 1) = s ++ ⟨#[117, 110, 108, 101, 115, 115, 32]⟩ ++ decS i ++ ⟨#[32]⟩ ++ x ++ ⟨#[10]⟩) := by
          show _ = _
          rw [HN0.out, hK, hMi]
          unfold lineS midS; rw [if_neg (by omega), if_pos (by omega)]; exact cat_all _ _ _ _ _
        have hp : (decS i).size ≤ 2 := decS_size i
        obtain ⟨p, HPP⟩ : ∃ p : ByteArray, Hid (p = decS i) := ⟨_, rfl⟩
        rw [← HPP.out] at HN hp
        clear hK hC0 hR0 hMi m1 m2
        obtain ⟨u, HU⟩ : ∃ u : ByteArray, Hid (u = ⟨#[117, 110, 108, 101, 115, 115, 32]⟩) := ⟨_, rfl⟩
        have hu : u.size = 7 := by rw [HU.out]; rfl
        have a1 : ∀ W, (Op.stringOp .add s ⟨#[117, 110, 108, 101, 115, 115, 32]⟩).run Tryz.prog W = .ok (.string (s ++ u)) W := fun W => by rw [← HU.out]; exact run_string_add_sum W _ _ (by omega)
        have a2 : ∀ W, (Op.stringOp .add (s ++ u) p).run Tryz.prog W = .ok (.string (s ++ u ++ p)) W := fun W => run_string_add_sum W _ _ (by rw [ByteArray.size_append]; omega)
        have a3 : ∀ W, (Op.stringOp .add (s ++ u ++ p) ⟨#[32]⟩).run Tryz.prog W = .ok (.string (s ++ u ++ p ++ ⟨#[32]⟩)) W := fun W => run_string_add_sum W _ _ (by rw [ByteArray.size_append, ByteArray.size_append]; omega)
        have a4 : ∀ W, (Op.stringOp .add (s ++ u ++ p ++ ⟨#[32]⟩) x).run Tryz.prog W = .ok (.string (s ++ u ++ p ++ ⟨#[32]⟩ ++ x)) W := fun W => run_string_add_sum W _ _ (by rw [ByteArray.size_append, ByteArray.size_append, ByteArray.size_append]; omega)
        have a5 : ∀ W, (Op.stringOp .add (s ++ u ++ p ++ ⟨#[32]⟩ ++ x) ⟨#[10]⟩).run Tryz.prog W = .ok (.string (s ++ u ++ p ++ ⟨#[32]⟩ ++ x ++ ⟨#[10]⟩)) W := fun W => run_string_add_sum W _ _ (by rw [ByteArray.size_append, ByteArray.size_append, ByteArray.size_append, ByteArray.size_append]; omega)
        rw [← HU.out] at HN
        go_wp2_with (go_at_call 22; refine (spec_PlaceText_noM 0 0 false false _ (by decide)).mono ?_; rintro e w1 ⟨rfl, hb⟩; obtain ⟨hc, hf, hC, hF, hz, hk, l0⟩ := bk1 (w := wr) (by go_grown) (by go_size) hb; clear hb)
        have d3 : w1.cell? ⟨wr.heap.size, 3, none⟩ = some (.string x) := by rw [hc _ _ (by omega)]; simp
        have d4 : w1.cell? ⟨wr.heap.size, 4, none⟩ = some (.int .i64 i) := by rw [hc _ _ (by omega)]; simp
        go_region_held3 (fun w' => (∀ bq oq, bq < w1.heap.size → w'.cell? ⟨bq, oq, none⟩ = w1.cell? ⟨bq, oq, none⟩) ∧ w1.heap.size ≤ w'.heap.size ∧ Below w1.heap.size w1 w')
          (exact sc_of (by go_size) (by go_grown))
          (first
          | (go_at_call 11; refine (spec_l1Dec i hi _).mono ?_; rintro e w2 ⟨rfl, hb⟩; rw [← HPP.out]; obtain ⟨hk1, hz1⟩ := bframe (B := w1.heap.size) (X := w1) (by go_grown) (by go_size) hb; have hC2 := fun b o h => hk1.cell (p := ⟨b, o, none⟩) h; clear hb))
        all_goals go_wp2_with fail
        all_goals
          go_roundw
          case rel => exact ⟨k + 1, by omega, by go_num, by rw [HN.out], bchain hbel (bchain hk (by go_grown))⟩
          case measure => simp [intOf]; omega
      · rw [hK] at c0
        rw [hC0] at c1
        rw [hR0] at c2
        obtain ⟨i, hMi, hi⟩ : ∃ i : Nat, M k = (i : Int) ∧ i < 100 := ⟨(M k).toNat, by omega, by omega⟩
        rw [hMi] at c4
        have HN : Hid (mtT K C R T M (k + 1) = s ++ ⟨#[119, 104, 105, 108, 101, 32]⟩ ++ decS i ++ ⟨#[32]⟩ ++ x ++ ⟨#[10]⟩) := by
          show _ = _
          rw [HN0.out, hK, hMi]
          unfold lineS midS; rw [if_neg (by omega), if_pos (by omega)]; exact cat_all _ _ _ _ _
        have hp : (decS i).size ≤ 2 := decS_size i
        obtain ⟨p, HPP⟩ : ∃ p : ByteArray, Hid (p = decS i) := ⟨_, rfl⟩
        rw [← HPP.out] at HN hp
        clear hK hC0 hR0 hMi m1 m2
        obtain ⟨u, HU⟩ : ∃ u : ByteArray, Hid (u = ⟨#[119, 104, 105, 108, 101, 32]⟩) := ⟨_, rfl⟩
        have hu : u.size = 6 := by rw [HU.out]; rfl
        have a1 : ∀ W, (Op.stringOp .add s ⟨#[119, 104, 105, 108, 101, 32]⟩).run Tryz.prog W = .ok (.string (s ++ u)) W := fun W => by rw [← HU.out]; exact run_string_add_sum W _ _ (by omega)
        have a2 : ∀ W, (Op.stringOp .add (s ++ u) p).run Tryz.prog W = .ok (.string (s ++ u ++ p)) W := fun W => run_string_add_sum W _ _ (by rw [ByteArray.size_append]; omega)
        have a3 : ∀ W, (Op.stringOp .add (s ++ u ++ p) ⟨#[32]⟩).run Tryz.prog W = .ok (.string (s ++ u ++ p ++ ⟨#[32]⟩)) W := fun W => run_string_add_sum W _ _ (by rw [ByteArray.size_append, ByteArray.size_append]; omega)
        have a4 : ∀ W, (Op.stringOp .add (s ++ u ++ p ++ ⟨#[32]⟩) x).run Tryz.prog W = .ok (.string (s ++ u ++ p ++ ⟨#[32]⟩ ++ x)) W := fun W => run_string_add_sum W _ _ (by rw [ByteArray.size_append, ByteArray.size_append, ByteArray.size_append]; omega)
        have a5 : ∀ W, (Op.stringOp .add (s ++ u ++ p ++ ⟨#[32]⟩ ++ x) ⟨#[10]⟩).run Tryz.prog W = .ok (.string (s ++ u ++ p ++ ⟨#[32]⟩ ++ x ++ ⟨#[10]⟩)) W := fun W => run_string_add_sum W _ _ (by rw [ByteArray.size_append, ByteArray.size_append, ByteArray.size_append, ByteArray.size_append]; omega)
        rw [← HU.out] at HN
        go_wp2_with (go_at_call 22; refine (spec_PlaceText_noM 0 0 false false _ (by decide)).mono ?_; rintro e w1 ⟨rfl, hb⟩; obtain ⟨hc, hf, hC, hF, hz, hk, l0⟩ := bk1 (w := wr) (by go_grown) (by go_size) hb; clear hb)
        have d3 : w1.cell? ⟨wr.heap.size, 3, none⟩ = some (.string x) := by rw [hc _ _ (by omega)]; simp
        have d4 : w1.cell? ⟨wr.heap.size, 4, none⟩ = some (.int .i64 i) := by rw [hc _ _ (by omega)]; simp
        go_region_held3 (fun w' => (∀ bq oq, bq < w1.heap.size → w'.cell? ⟨bq, oq, none⟩ = w1.cell? ⟨bq, oq, none⟩) ∧ w1.heap.size ≤ w'.heap.size ∧ Below w1.heap.size w1 w')
          (exact sc_of (by go_size) (by go_grown))
          (first
          | (go_at_call 11; refine (spec_l1Dec i hi _).mono ?_; rintro e w2 ⟨rfl, hb⟩; rw [← HPP.out]; obtain ⟨hk1, hz1⟩ := bframe (B := w1.heap.size) (X := w1) (by go_grown) (by go_size) hb; have hC2 := fun b o h => hk1.cell (p := ⟨b, o, none⟩) h; clear hb))
        all_goals go_wp2_with fail
        all_goals
          go_roundw
          case rel => exact ⟨k + 1, by omega, by go_num, by rw [HN.out], bchain hbel (bchain hk (by go_grown))⟩
          case measure => simp [intOf]; omega
      · rw [hK] at c0
        rw [hC0] at c1
        rw [hR0] at c2
        have HN : Hid (mtT K C R T M (k + 1) = s ++ ⟨#[97, 98, 111, 114, 116, 32]⟩ ++ x ++ ⟨#[10]⟩) := by
          show _ = _
          rw [HN0.out, hK]
          unfold lineS midS; rw [if_neg (by omega), if_neg (by omega)]; exact cat_five _ _ _ _
        clear hK hC0 hR0
        obtain ⟨u, HU⟩ : ∃ u : ByteArray, Hid (u = ⟨#[97, 98, 111, 114, 116, 32]⟩) := ⟨_, rfl⟩
        have hu : u.size = 6 := by rw [HU.out]; rfl
        have a1 : ∀ W, (Op.stringOp .add s ⟨#[97, 98, 111, 114, 116, 32]⟩).run Tryz.prog W = .ok (.string (s ++ u)) W := fun W => by rw [← HU.out]; exact run_string_add_sum W _ _ (by omega)
        have a2 : ∀ W, (Op.stringOp .add (s ++ u) x).run Tryz.prog W = .ok (.string (s ++ u ++ x)) W := fun W => run_string_add_sum W _ _ (by rw [ByteArray.size_append]; omega)
        have a3 : ∀ W, (Op.stringOp .add (s ++ u ++ x) ⟨#[10]⟩).run Tryz.prog W = .ok (.string (s ++ u ++ x ++ ⟨#[10]⟩)) W := fun W => run_string_add_sum W _ _ (by rw [ByteArray.size_append, ByteArray.size_append]; omega)
        rw [← HU.out] at HN
        go_wp2_with (go_at_call 22; refine (spec_PlaceText_noM 0 0 false false _ (by decide)).mono ?_; rintro e w1 ⟨rfl, hb⟩; obtain ⟨hc, hf, hC, hF, hz, hk, l0⟩ := bk1 (w := wr) (by go_grown) (by go_size) hb; clear hb)
        all_goals
          go_roundw
          case rel => exact ⟨k + 1, by omega, by go_num, by rw [HN.out], bchain hbel (by go_grown)⟩
          case measure => simp [intOf]; omega
    · have h1 : ¬ (k : Int) < (n : Int) := by omega
      obtain rfl : k = n := by omega
      go_wp2_with fail
      go_ret
      exact ⟨ret_str HF.out.symm, hbel⟩
end Go.Proofs.YtelehnemlejcoaaGreatDoor
