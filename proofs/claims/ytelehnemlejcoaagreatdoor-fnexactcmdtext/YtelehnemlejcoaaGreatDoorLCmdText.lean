import Derived.Test.YtelehnemlejcoaaGreatDoorGzh
import Derived.Test.YtelehnemlejcoaaGreatDoorGzg
import Derived.Test.YtelehnemlejcoaaGreatDoorGar
set_option linter.unusedSimpArgs false
set_option linter.unusedVariables false
namespace Go.Proofs.YtelehnemlejcoaaGreatDoor
open Go.RowKit
theorem impl_decimalC (n : Int) (w : World) (h0 : -9223372036854775808 ≤ n) (h1 : n ≤ 9223372036854775807) (hv : VarT w) : Calls Tryz.prog 15 #[.int .i64 n] w fun e w' => e = .returned (.string (itB n)) ∧ Below w.heap.size w w' := by
  have HV : Hid (VarT w) := hv
  clear hv
  go_enter Tryz.func15, Tryz.ntmps15
  go_wp2_with fail
  refine (Tryz.strconv_FormatInt_10 n h0 h1 _ HV.out).mono ?_
  rintro e w2 ⟨rfl, k, os, rfl⟩
  have hb2 := Lib.below_grow w.heap.size w (Nat.le_refl _) k os
  go_wp2_with fail
  go_ret
  exact ⟨rfl, hb2⟩
theorem dec_size {b : Int} (h : 1 ≤ b) (h1 : b ≤ 1000000000) : (itB b).size ≤ 30 := by
  obtain ⟨m, rfl⟩ : ∃ m : Nat, b = (m : Int) := ⟨b.toNat, by omega⟩
  exact Nat.le_trans (itB_size (by omega)) (by omega)
def dcB (b : Int) : ByteArray := if 1 ≤ b ∧ b ≤ 1000000000 then itB b else ⟨#[]⟩
theorem dcB_size (b : Int) : (dcB b).size ≤ 30 := by
  unfold dcB
  split
  · rename_i h; exact dec_size h.1 h.2
  · exact Nat.zero_le _
def mtC (K C R : Nat → Int) (T : Nat → ByteArray) (M : Nat → Int) (n : Nat) : ByteArray := if msOkB K C R T M n = true then mtO K C R T M n else ⟨#[]⟩
theorem mtO_yes {K C R : Nat → Int} {T : Nat → ByteArray} {M : Nat → Int} {n : Nat} (h : msOkB K C R T M n = true) : mtO K C R T M n = mtT K C R T M n := by unfold mtO; rw [h]; rfl
theorem mtC_size {K C R : Nat → Int} {T : Nat → ByteArray} {M : Nat → Int} {n : Nat} (hT : ∀ i, i < n → (T i).size ≤ 1048576) : (mtC K C R T M n).size ≤ 100000000 := by
  unfold mtC
  split
  · rename_i h
    rw [mtO_yes h]
    have h1 := (msOk_all h).1
    have h2 := mtT_size (K := K) (C := C) (R := R) (T := T) (M := M) n hT
    omega
  · exact Nat.zero_le _
def cmO (k : Int) (s o : ByteArray) (b : Int) (n : Nat) (K C R : Nat → Int) (T : Nat → ByteArray) (M : Nat → Int) : ByteArray := cmT k s o b (msOkB K C R T M n) n (dcB b) (mtC K C R T M n)
theorem impl_CmdTextC (k : Int) (s o : ByteArray) (b : Int) {A : Option Addr} {n cap : Nat} {K C R : Nat → Int} {T : Nat → ByteArray} {M : Nat → Int} (w : World) (hs : s.size ≤ maxLen) (ho : o.size ≤ maxLen) (h : MsRow w A n K C R T M) (hT : ∀ i, i < n → (T i).size ≤ 1048576) (hg : GI w) (hsw : SWG w) (hv : VarT w) :
    Calls Tryz.prog 7 #[.agg #[.int .i64 k, .string s, .string o, .int .i64 b, .slice A n cap]] w fun e w' => e = .returned (.string (cmO k s o b n K C R T M)) ∧ Below w.heap.size w w' :=
  impl_CmdText k s o b A n cap _ _ _ w hs ho (dcB_size b) (mtC_size hT)
    (fun W hW => impl_MacroOk W (h.below hW) hT (hg.below hW))
    (fun b1 b2 W hW => by rw [dcB, if_pos ⟨b1, b2⟩]; exact impl_decimalC b W (by omega) (by omega) (hv.below hW))
    (fun hm W hW => by rw [mtC, if_pos hm]; exact impl_MacroText W (h.below hW) hT (hg.below hW) (hsw.below hW))
theorem spec_CmdTextC (k : Int) (s o : ByteArray) (b : Int) {A : Option Addr} {n cap : Nat} {K C R : Nat → Int} {T : Nat → ByteArray} {M : Nat → Int} (w : World) (hs : s.size ≤ maxLen) (ho : o.size ≤ maxLen) (h : MsRow w A n K C R T M) (hT : ∀ i, i < n → (T i).size ≤ 1048576) :
    Calls Tryz.prog 5 #[.agg #[.int .i64 k, .string s, .string o, .int .i64 b, .slice A n cap]] w fun e w' => e = .returned (.string (cmO k s o b n K C R T M)) ∧ Below w.heap.size w w' :=
  spec_CmdText k s o b A n cap _ _ _ w hs ho (dcB_size b) (mtC_size hT)
    (fun W hW => spec_MacroOk W (h.below hW) hT)
    (fun b1 b2 W hW => by rw [dcB, if_pos ⟨b1, b2⟩]; exact spec_l1DecV b W (decide_eq_true (by omega)))
    (fun hm W hW => by rw [mtC, if_pos hm]; exact spec_MacroText W (h.below hW) hT)
set_option maxRecDepth 100000 in
set_option maxHeartbeats 4000000 in
theorem law_FnExactCmdText (k : Int) (s o : ByteArray) (b : Int) (A : Option Addr) (n cap : Nat) (K C R : Nat → Int) (T : Nat → ByteArray) (M : Nat → Int) (w : World) (h : MsRow w A n K C R T M) (hs : s.size ≤ maxLen) (ho : o.size ≤ maxLen) (hg : GI w) (hsw : SWG w) (hv : VarT w) : Calls Tryz.prog 3 #[.agg #[.int .i64 k, .string s, .string o, .int .i64 b, .slice A n cap]] w fun e w' =>
    e = .returned (.bool true) ∧ Below w.heap.size w w' := by
  have HR : Hid (MsRow w A n K C R T M) := h
  have HS : Hid (∀ i, i < n → (T i).size ≤ maxLen) := fun i hi => by obtain ⟨_, _, _, _, _, _, _, _, _, hs⟩ := h.2 i hi; exact hs
  have HSS : Hid (s.size ≤ maxLen) := hs
  have HOO : Hid (o.size ≤ maxLen) := ho
  have HG : Hid (GI w) := hg
  have HSW : Hid (SWG w) := hsw
  have HV : Hid (VarT w) := hv
  obtain ⟨f, HFF⟩ : ∃ f : ByteArray, Hid (f = cmO k s o b n K C R T M) := ⟨_, rfl⟩
  have e1 : (f.toList == f.toList) = true := by simp
  clear h hg hsw hv hs ho
  go_enter Tryz.func3, Tryz.ntmps3
  go_wp2_with fail
  obtain ⟨X, HX⟩ : ∃ X, Hid (w.alloc (.cells #[.int .i64 k, .string s, .string o, .int .i64 b, .slice A n cap] 24) = X) := ⟨_, rfl⟩
  rw [HX.out]
  have c_0 : X.cell? ⟨w.heap.size, 0, none⟩ = some (.int .i64 k) := by rw [← HX.out]; go_simp
  have c_1 : X.cell? ⟨w.heap.size, 1, none⟩ = some (.string s) := by rw [← HX.out]; go_simp
  have c_2 : X.cell? ⟨w.heap.size, 2, none⟩ = some (.string o) := by rw [← HX.out]; go_simp
  have c_3 : X.cell? ⟨w.heap.size, 3, none⟩ = some (.int .i64 b) := by rw [← HX.out]; go_simp
  have c_4 : X.cell? ⟨w.heap.size, 4, none⟩ = some (.slice A n cap) := by rw [← HX.out]; go_simp
  have zX : w.heap.size < X.heap.size := by rw [← HX.out]; simp
  have KX : Hid (Below w.heap.size w X) := by rw [← HX.out]; show Below _ _ _; go_grown
  clear HX
  refine (laws_szCmd k s o b _ (HR.out.below KX.out) HSS.out HOO.out).mono ?_
  rintro e u1 ⟨z, rfl, hz, hb⟩
  replace c_0 := cy hb c_0
  replace c_1 := cy hb c_1
  replace c_2 := cy hb c_2
  replace c_3 := cy hb c_3
  replace c_4 := cy hb c_4
  replace zX : w.heap.size < u1.heap.size := Nat.lt_of_lt_of_le zX hb.size
  replace KX : Hid (Below w.heap.size w u1) := bchain KX.out hb
  clear hb
  by_cases hneg : z < 0
  · go_wp2_with fail
    go_ret
    exact ⟨rfl, KX.out⟩
  have HN : Hid (n ≤ 1048576) := (hz (by omega)).2.2.1
  have HTZ : Hid (∀ i, i < n → (T i).size ≤ 1048576) := (hz (by omega)).2.2.2
  clear hz
  go_wp2_with fail
  refine (laws_toCmd k s o b _ (HR.out.below KX.out) HN.out HS.out).mono ?_
  rintro e u2 ⟨A1, cap1, rfl, hr, hb⟩
  have R1 : Hid (MsRow u2 A1 n K C R T M) := hr
  replace c_0 := cy hb c_0
  replace c_1 := cy hb c_1
  replace c_2 := cy hb c_2
  replace c_3 := cy hb c_3
  replace c_4 := cy hb c_4
  replace zX : w.heap.size < u2.heap.size := Nat.lt_of_lt_of_le zX hb.size
  replace KX : Hid (Below w.heap.size w u2) := bchain KX.out hb
  clear hb hr
  go_wp2_with fail
  refine (spec_CmdTextC k s o b _ HSS.out HOO.out R1.out HTZ.out).mono ?_
  rintro e u3 ⟨rfl, hb⟩
  rw [← HFF.out]
  replace c_0 := cy hb c_0
  replace c_1 := cy hb c_1
  replace c_2 := cy hb c_2
  replace c_3 := cy hb c_3
  replace c_4 := cy hb c_4
  replace zX : w.heap.size < u3.heap.size := Nat.lt_of_lt_of_le zX hb.size
  replace KX : Hid (Below w.heap.size w u3) := bchain KX.out hb
  clear hb R1
  go_wp2_with fail
  refine (laws_toCmd k s o b _ (HR.out.below KX.out) HN.out HS.out).mono ?_
  rintro e u4 ⟨A2, cap2, rfl, hr, hb⟩
  have R2 : Hid (MsRow u4 A2 n K C R T M) := hr
  replace c_0 := cy hb c_0
  replace c_1 := cy hb c_1
  replace c_2 := cy hb c_2
  replace c_3 := cy hb c_3
  replace c_4 := cy hb c_4
  replace zX : w.heap.size < u4.heap.size := Nat.lt_of_lt_of_le zX hb.size
  replace KX : Hid (Below w.heap.size w u4) := bchain KX.out hb
  clear hb hr
  go_wp2_with fail
  obtain ⟨Y, HY⟩ : ∃ X, Hid (u4.alloc (.cells #[.int .i64 k, .string s, .string o, .int .i64 b, .slice A2 n cap2] 29) = X) := ⟨_, rfl⟩
  rw [HY.out]
  have hb : Below u4.heap.size u4 Y := by rw [← HY.out]; go_grown
  have d_0 : Y.cell? ⟨u4.heap.size, 0, none⟩ = some (.int .i64 k) := by rw [← HY.out]; go_simp
  have d_1 : Y.cell? ⟨u4.heap.size, 1, none⟩ = some (.string s) := by rw [← HY.out]; go_simp
  have d_2 : Y.cell? ⟨u4.heap.size, 2, none⟩ = some (.string o) := by rw [← HY.out]; go_simp
  have d_3 : Y.cell? ⟨u4.heap.size, 3, none⟩ = some (.int .i64 b) := by rw [← HY.out]; go_simp
  have d_4 : Y.cell? ⟨u4.heap.size, 4, none⟩ = some (.slice A2 n cap2) := by rw [← HY.out]; go_simp
  have zY : u4.heap.size < Y.heap.size := by rw [← HY.out]; simp
  replace c_0 := cy hb c_0
  replace c_1 := cy hb c_1
  replace c_2 := cy hb c_2
  replace c_3 := cy hb c_3
  replace c_4 := cy hb c_4
  replace zX : w.heap.size < Y.heap.size := Nat.lt_of_lt_of_le zX hb.size
  replace KX : Hid (Below w.heap.size w Y) := bchain KX.out hb
  replace R2 : Hid (MsRow Y A2 n K C R T M) := R2.out.below hb
  clear hb HY
  refine (impl_CmdTextC k s o b _ HSS.out HOO.out R2.out HTZ.out (HG.out.below KX.out) (HSW.out.below KX.out) (HV.out.below KX.out)).mono ?_
  rintro e u5 ⟨rfl, hb⟩
  rw [← HFF.out]
  replace c_0 := cy hb c_0
  replace c_1 := cy hb c_1
  replace c_2 := cy hb c_2
  replace c_3 := cy hb c_3
  replace c_4 := cy hb c_4
  replace d_0 := cy hb d_0
  replace d_1 := cy hb d_1
  replace d_2 := cy hb d_2
  replace d_3 := cy hb d_3
  replace d_4 := cy hb d_4
  replace zX : w.heap.size < u5.heap.size := Nat.lt_of_lt_of_le zX hb.size
  replace zY : u4.heap.size < u5.heap.size := Nat.lt_of_lt_of_le zY hb.size
  replace KX : Hid (Below w.heap.size w u5) := bchain KX.out hb
  replace R2 : Hid (MsRow u5 A2 n K C R T M) := R2.out.below hb
  clear hb
  go_wp2_with fail
  go_region_held3 (fun w' => (∀ bq oq, bq < u5.heap.size → w'.cell? ⟨bq, oq, none⟩ = u5.cell? ⟨bq, oq, none⟩) ∧ u5.heap.size ≤ w'.heap.size ∧ Below u5.heap.size u5 w')
    (exact sc_of (Nat.le_refl _) (by go_grown))
    (first
    | (go_at_call 6; refine (laws_toCmd k s o b _ (HR.out.below (bchain KX.out (by go_grown))) HN.out HS.out).mono ?_; rintro e y1 ⟨A3, cap3, rfl, hr, hb⟩; have R3 : Hid (MsRow y1 A3 n K C R T M) := hr; obtain ⟨hk1, hz1⟩ := bframe (B := u5.heap.size) (X := u5) (by go_grown) (by go_size) hb; clear hb hr)
    | (go_at_call 8; refine (laws_eqCmd k s o b _ (R2.out.below hk1) R3.out).mono ?_; rintro e y2 ⟨rfl, hb⟩; obtain ⟨hk2, hz2⟩ := bframe (B := u5.heap.size) (X := u5) hk1 hz1 hb; clear hb))
  all_goals
    go_wp2_with fail
    go_ret
    exact ⟨rfl, bchain KX.out (by go_grown)⟩
end Go.Proofs.YtelehnemlejcoaaGreatDoor
