import Derived.Test.YtjkioadjclfmiaaDoorCrA
namespace Go.Proofs.YtjkioadjclfmiaaDoor
open Go.RowKit

/-- A number in four bytes, the highest first. -/
def four (n : Nat) : ByteArray := ⟨#[UInt8.ofNat (n / 16777216 % 256), UInt8.ofNat (n / 65536 % 256), UInt8.ofNat (n / 256 % 256), UInt8.ofNat (n % 256)]⟩
theorem four_size (n : Nat) : (four n).size = 4 := rfl

theorem conv4 (W : World) (b : Nat) (x y z u : Int) (hx : W.cell? ⟨b, 0, none⟩ = some (.int .u8 x)) (hy : W.cell? ⟨b, 1, none⟩ = some (.int .u8 y)) (hz : W.cell? ⟨b, 2, none⟩ = some (.int .u8 z)) (hu : W.cell? ⟨b, 3, none⟩ = some (.int .u8 u)) :
    (convert 22 9 (.slice (some ⟨b, 0, none⟩) 4 4)).run Tryd.prog W = .ok (.string ⟨#[UInt8.ofNat x.toNat, UInt8.ofNat y.toNat, UInt8.ofNat z.toNat, UInt8.ofNat u.toNat]⟩) W := by
  rw [run_convert_bytes_string W 22 9 5 (some ⟨b, 0, none⟩) 4 4 Tryd.underlying22 Tryd.underlying5 Tryd.underlying9]
  have hl := run_loadCells_list (P := Tryd.prog) W ⟨b, 0, none⟩ [.int .u8 x, .int .u8 y, .int .u8 z, .int .u8 u] (fun j v hj => by
    match j, hj with
    | 0, hj => simp at hj; simpa [Addr.add, ← hj] using hx
    | 1, hj => simp at hj; simpa [Addr.add, ← hj] using hy
    | 2, hj => simp at hj; simpa [Addr.add, ← hj] using hz
    | 3, hj => simp at hj; simpa [Addr.add, ← hj] using hu)
  rw [run_bytesToString W ⟨b, 0, none⟩ 4 4 [x, y, z, u] (by simpa using hl)]
  rfl
theorem conv4a (W : World) (x y z u : Int) : (convert 22 9 (.slice (some ⟨W.heap.size, 0, none⟩) 4 4)).run Tryd.prog (W.alloc (.cells #[.int .u8 x, .int .u8 y, .int .u8 z, .int .u8 u] 5)) =
    .ok (.string ⟨#[UInt8.ofNat x.toNat, UInt8.ofNat y.toNat, UInt8.ofNat z.toNat, UInt8.ofNat u.toNat]⟩) (W.alloc (.cells #[.int .u8 x, .int .u8 y, .int .u8 z, .int .u8 u] 5)) :=
  conv4 _ _ x y z u (by simp) (by simp) (by simp) (by simp)
theorem four_of {n : Nat} (h : n < 4294967296) : (⟨#[UInt8.ofNat (n / 16777216), UInt8.ofNat (n / 65536 % 256), UInt8.ofNat (n / 256 % 256), UInt8.ofNat (n % 256)]⟩ : ByteArray) = four n := by
  unfold four
  rw [show n / 16777216 % 256 = n / 16777216 by omega]

set_option maxHeartbeats 2000000 in
theorem impl_fourBytes (n : Nat) (hn : n < 4294967296) (w : World) : Calls Tryd.prog 24 #[.int .u32 n] w fun e w' =>
    e = .returned (.string (four n)) ∧ Below w.heap.size w w' := by
  have cv := conv4a
  have HF : Hid (_ = _) := four_of hn
  go_enter Tryd.func24, Tryd.ntmps24
  go_wp2_with fail
  go_ret
  exact ⟨ret_str HF.out, by go_grown⟩
set_option maxHeartbeats 2000000 in
theorem spec_l14Four (n : Nat) (hn : n < 4294967296) (w : World) : Calls Tryd.prog 22 #[.int .u32 n] w fun e w' =>
    e = .returned (.string (four n)) ∧ Below w.heap.size w w' := by
  have cv := conv4a
  have HF : Hid (_ = _) := four_of hn
  go_enter Tryd.func22, Tryd.ntmps22
  go_wp2_with fail
  go_ret
  exact ⟨ret_str HF.out, by go_grown⟩

/-- The frame of a text. -/
def frameT (s : ByteArray) : ByteArray := if 1000000 < s.size then ⟨#[]⟩ else four s.size ++ four (crcT s) ++ s

set_option maxHeartbeats 400000 in
theorem impl_FrameOf (s : ByteArray) (hs : s.size ≤ 4000000) (w : World) (hC : CR w) (hz : 0 < w.heap.size) : Calls Tryd.prog 11 #[.string s] w fun e w' =>
    e = .returned (.string (frameT s)) ∧ Below w.heap.size w w' := by
  by_cases h : 1000000 < s.size
  · have HF : Hid (frameT s = ⟨#[]⟩) := if_pos h
    have q : ¬ (s.size : Int) ≤ 1000000 := by omega
    have q' : (1000000 : Int) < (s.size : Int) := by omega
    go_enter Tryd.func11, Tryd.ntmps11
    go_wp2_with fail
    go_ret
    exact ⟨ret_str HF.out.symm, by go_grown⟩
  · obtain ⟨n, HN⟩ : ∃ n : Nat, Hid (n = crcT s) := ⟨_, rfl⟩
    have hn : n < 4294967296 := by rw [HN.out]; exact crcT_lt s
    obtain ⟨m, HM⟩ : ∃ m : Nat, Hid (m = s.size) := ⟨_, rfl⟩
    have hm : m ≤ 1000000 := by have := HM.out; omega
    have HF : Hid (frameT s = four m ++ four n ++ s) := by rw [HN.out, HM.out]; exact if_neg h
    have hM : s.size = m := HM.out.symm
    have z1 : (four m).size = 4 := four_size m
    have z2 : (four n).size = 4 := four_size n
    have q' : ¬ (1000000 : Int) < (m : Int) := by omega
    have q : (m : Int) % 4294967296 = (m : Int) := by omega
    clear h
    go_enter Tryd.func11, Tryd.ntmps11
    go_wp2_with (first
      | (go_at_call 25; refine (impl_checkOf s (by omega) _ (hC.of hb hz)).mono ?_; rintro e w2 ⟨rfl, rfl⟩; rw [← HN.out])
      | (go_at_call 24; refine (impl_fourBytes _ ?_ _).mono ?_; · omega
         rintro e w1 ⟨rfl, hb2⟩; first | (have hb3 := bchain hb hb2; clear hb hb2) | (have hb := hb2; clear hb2)))
    go_ret
    exact ⟨ret_str HF.out.symm, hb3⟩
end Go.Proofs.YtjkioadjclfmiaaDoor
