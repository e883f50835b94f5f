import Derived.Test.YtejbnnacghbhoaaGreatDoorMn
import Derived.Test.YtejbnnacghbhoaaGreatDoorCa
import Derived.Test.YtejbnnacghbhoaaGreatDoorMg
import Derived.Test.YtejbnnacghbhoaaGreatDoorCc
import Derived.Test.YtejbnnacghbhoaaGreatDoorCb
set_option linter.unusedSimpArgs false
set_option linter.unusedVariables false
set_option maxHeartbeats 8000000
set_option maxRecDepth 100000
namespace Go.Proofs.YtejbnnacghbhoaaGreatDoor
open Go.RowKit
theorem grown_belowC {a b c:World} {ob:Option Nat} (h:Below a.heap.size a b) (h':b.grownBy c ob):a.grownBy c ob:=
 ⟨h'.os.trans h.1,h'.tape.trans h.2,h'.output.trans h.3,Nat.le_trans h.size h'.size,fun k hk hr=>(h'.block k (Nat.lt_of_lt_of_le hk h.size) hr).trans (h.5 k hk)⟩
theorem laws_markCmd (k:Int) (s o:ByteArray) (b:Int) {B n:Nat} {A:Option Addr} {cap:Nat} {xs:List Value} (k0:Int) (w:World) (h:w.ownsRow B 69 5 (.slice A n cap) n xs) (hn:n≤1048576) (hk0:0<k0) (hk1:k0≤70368744177664):
  Calls Tryz.prog 30 #[.agg #[.int .i64 k,.string s,.string o,.int .i64 b,.slice A n cap],.int .i64 k0] w fun e w'=>e= .returned (.int .i64 (k0+(n:Int)*5))∧w'.ownsRow B 69 5 (.slice A n cap) n (QC srC (mkL smMk 5 k0 n))∧w.grownBy w' (Value.slice A n cap).ownBlock:=by
 have HO:Hid (w.ownsRow B 69 5 (.slice A n cap) n xs):=h;clear h;go_enter Tryz.func30,Tryz.ntmps30;go_wp2_with fail
 obtain⟨X,HX⟩: ∃X,Hid (w.alloc (.cells #[.int .i64 k,.string s,.string o,.int .i64 b,.slice A n cap] 45)=X):=⟨_,rfl⟩;have KX:Hid (Below w.heap.size w X):=by rw [←HX.out];exact(Below.refl _ _).alloc (Nat.le_refl _) _
 rw [HX.out];refine(laws_markStmtS k0 X (Qi HO.out KX.out) hn hk0 hk1).mono ?_;rintro e u ⟨rfl,ho,hg⟩;have H1:Hid (u.ownsRow B 69 5 (.slice A n cap) n (QC srC (mkL smMk 5 k0 n))):=ho;have H2:Hid (w.grownBy u (Value.slice A n cap).ownBlock):=grown_belowC KX.out hg;clear ho hg KX HX HO;go_wp2_with fail
 go_ret;exact⟨rfl,H1.out,H2.out⟩
theorem laws_heldCmd (k:Int) (s o:ByteArray) (b:Int) {n:Nat} {A:Option Addr} {cap:Nat} (k0:Int) (w:World) (h:SmRow w A (mkL smMk 5 k0 n)) (hn:n≤1048576) (hk0:0<k0) (hk1:k0≤70368744177664):
  Calls Tryz.prog 31 #[.agg #[.int .i64 k,.string s,.string o,.int .i64 b,.slice A n cap],.int .i64 k0] w fun e w'=>e= .returned (.int .i64 (k0+(n:Int)*5))∧Below w.heap.size w w':=by
 have HO:Hid (SmRow w A (mkL smMk 5 k0 n)):=h;clear h;have hnn: ¬k0+(n:Int)*5<0:=by omega
 go_enter Tryz.func31,Tryz.ntmps31;go_wp2_with fail
 obtain⟨X,HX⟩: ∃X,Hid (w.alloc (.cells #[.int .i64 k,.string s,.string o,.int .i64 b,.slice A n cap] 45)=X):=⟨_,rfl⟩;have KX:Hid (Below w.heap.size w X):=by rw [←HX.out];exact(Below.refl _ _).alloc (Nat.le_refl _) _
 rw [HX.out];refine(laws_heldStmtS k0 X (HO.out.below KX.out) hn hk0 hk1).mono ?_;rintro e u ⟨rfl,hb⟩;have KU:=hd (Qc KX.out hb);clear hb KX HX HO;go_wp2_with fail
 go_ret;exact⟨rfl,KU.out⟩
theorem cmI_fields (l:List UInt8):(cmI l).L= []∨(cmI l).L=rmF (bs (cr 10 l)):=by
 unfold cmI;split
 ·exact Or.inr rfl
 split
 ·exact Or.inl rfl
 split
 ·exact Or.inl rfl
 split
 ·exact Or.inl rfl
 ·exact Or.inl rfl
theorem rcF_L {s:ByteArray} (hs:s.size≤1048576):(rcF s).L.length≤31∧ ∀i,i<(rcF s).L.length→(sT (rcF s).L i).size≤1048576:=by
 have key: ∀L:List SR,L= []∨L=rmF (bs (cr 10 s.data.toList))→L.length≤31∧ ∀i,i<L.length→(sT L i).size≤1048576:=by
  rintro L (rfl | rfl)
  ·exact⟨Nat.zero_le _,fun i hi=>absurd hi (Nat.not_lt_zero _)⟩
  ·have h9:=cr_len 10 s.data.toList;have e9:s.data.toList.length=s.size:=by simp
   exact⟨rmF_len _,rmF_szM (by rw [bs_szC];omega)⟩
 refine key _ ?_;unfold rcF;split
 ·exact cmI_fields _
 ·exact Or.inl rfl
theorem law_FnExactReadCmd (s : ByteArray) (w : World) (hg : RG w) : Calls Tryz.prog 6 #[.string s] w fun e w' => e = .returned (.bool true) ∧ Below w.heap.size w w' := by
  have HG : Hid (RG w) := hg;clear hg;by_cases hs : s.size ≤ 1048576
  case neg =>
    have q : (1048576 : Int) < (s.size : Int) := by omega
    go_enter Tryz.func6, Tryz.ntmps6;go_wp2_with fail
    go_ret;exact ⟨rfl, Below.refl _ _⟩
  have q : ¬ (1048576 : Int) < (s.size : Int) := by omega
  obtain ⟨F, HF⟩ : ∃ F, Hid (rcF s = F) := ⟨_, rfl⟩;obtain ⟨ok, HK⟩ : ∃ ok, Hid (rcB s = ok) := ⟨_, rfl⟩;obtain ⟨hn31, hsz⟩ := rcF_L hs;rw [HF.out] at hn31 hsz;obtain ⟨k, x, y, b, L⟩ := F;dsimp only at hn31 hsz;have HSZ : Hid (∀ i, i < L.length → (sT L i).size ≤ 1048576) := hsz
  clear hsz;obtain ⟨n, HN⟩ : ∃ n, Hid (L.length = n) := ⟨_, rfl⟩;rw [HN.out] at hn31;have j1 : ¬ (1 : Int) + (n : Int) * 5 < 0 := by omega
  go_enter Tryz.func6, Tryz.ntmps6;go_wp2_with fail
  refine (spec_ReadCmd s w hs).mono ?_;rintro e u1 ⟨⟨A1, n1, c1, rfl, hL, ho⟩, hb⟩;rw [HF.out] at hL ho ⊢;dsimp only at hL ho ⊢;obtain rfl : n = n1 := HN.out.symm.trans hL;rw [HK.out];have O1 : Hid (u1.ownsRow (w.heap.size + 1) 69 5 (.slice A1 n c1) n (QC srC L)) := ho
  have N1 : Hid (∀ j, (Value.slice A1 n c1).ownBlock = some j → j < u1.heap.size) := fun j hj => (ho.lt j hj).2;have K1 : Hid (Below w.heap.size w u1) := hb;clear ho hb hL;obtain ⟨b3, HB3⟩ : ∃ b, Hid (u1.heap.size = b) := ⟨_, rfl⟩;have hz3 : w.heap.size ≤ b3 := by rw [← HB3.out]; exact K1.out.size
  have NZ1 : Hid (BX (u1.alloc (.cells #[.int .i64 0, .string ⟨#[]⟩, .string ⟨#[]⟩, .int .i64 0, .slice none 0 0] 45)) u1.heap.size [.int .i64 0, .string ⟨#[]⟩, .string ⟨#[]⟩, .int .i64 0, .slice none 0 0]) := bx_new u1 _ _
  go_upto_region 4 with (first
    | (refine stoB NZ1.out [.int .i64 k, .string x, .string y, .int .i64 b, .slice A1 n c1] (by simp) rfl 45 _ _ rfl rfl rfl infoCm5 rfl ?_; intro Y1 hBY hbY hzY hkY
       have KY : Below u1.heap.size u1 Y1 := ((Below.refl _ _).alloc (Nat.le_refl _) _).trans hbY;have D3 : Hid (BX Y1 b3 [.int .i64 k, .string x, .string y, .int .i64 b, .slice A1 n c1]) := by rw [← HB3.out]; exact hBY
       have P1 : Hid (Y1.ownsRow (w.heap.size + 1) 69 5 (.slice A1 n c1) n (QC srC L)) := Qi O1.out KY;have K2 : Hid (Below w.heap.size w Y1) := Qc K1.out KY;have hy1 : b3 < Y1.heap.size := D3.out.lt (by simp)
       clear hBY hbY hzY hkY KY)
    | fail)
  rw [HB3.out];clear NZ1 O1 K1;rw [HB3.out] at N1;clear HB3;go_wp2_with fail
  refine (impl_ReadCmd s Y1 hs (HG.out.below K2.out)).mono ?_;rintro e u2 ⟨⟨A2, n2, c2, rfl, hL, ho⟩, hb⟩;rw [HF.out] at hL ho ⊢;dsimp only at hL ho ⊢;obtain rfl : n = n2 := HN.out.symm.trans hL;rw [HK.out];have O2 : Hid (u2.ownsRow (Y1.heap.size + 1) 69 5 (.slice A2 n c2) n (QC srC L)) := ho
  have N2 : Hid (∀ j, (Value.slice A2 n c2).ownBlock = some j → b3 < j ∧ j < u2.heap.size) := fun j hj => by have := ho.lt j hj; exact ⟨by omega, this.2⟩
  have D3' : Hid (BX u2 b3 [.int .i64 k, .string x, .string y, .int .i64 b, .slice A1 n c1]) := D3.out.below (by simp) hb;have P2 : Hid (u2.ownsRow (w.heap.size + 1) 69 5 (.slice A1 n c1) n (QC srC L)) := Qi P1.out hb;have K3 : Hid (Below w.heap.size w u2) := Qc K2.out hb;clear ho hb hL D3 P1 K2;obtain ⟨b5, HB5⟩ : ∃ b, Hid (u2.heap.size = b) := ⟨_, rfl⟩;have hz5 : b3 < b5 := by rw [← HB5.out]; exact D3'.out.lt (by simp)
  have NZ2 : Hid (BX (u2.alloc (.cells #[.int .i64 0, .string ⟨#[]⟩, .string ⟨#[]⟩, .int .i64 0, .slice none 0 0] 45)) u2.heap.size [.int .i64 0, .string ⟨#[]⟩, .string ⟨#[]⟩, .int .i64 0, .slice none 0 0]) := bx_new u2 _ _
  go_upto_region 5 with (first
    | (refine stoB NZ2.out [.int .i64 k, .string x, .string y, .int .i64 b, .slice A2 n c2] (by simp) rfl 45 _ _ rfl rfl rfl infoCm5 rfl ?_; intro Y2 hBY hbY hzY hkY
       have KY : Below u2.heap.size u2 Y2 := ((Below.refl _ _).alloc (Nat.le_refl _) _).trans hbY;have D5 : Hid (BX Y2 b5 [.int .i64 k, .string x, .string y, .int .i64 b, .slice A2 n c2]) := by rw [← HB5.out]; exact hBY
       have D3 : Hid (BX Y2 b3 [.int .i64 k, .string x, .string y, .int .i64 b, .slice A1 n c1]) := D3'.out.below (by simp) KY;have P3 : Hid (Y2.ownsRow (w.heap.size + 1) 69 5 (.slice A1 n c1) n (QC srC L)) := Qi P2.out KY;have Q3 : Hid (Y2.ownsRow (b3 + 1) 69 5 (.slice A2 n c2) n (QC srC L)) := ZP (Qi O2.out KY) (by omega);have K4 : Hid (Below w.heap.size w Y2) := Qc K3.out KY
       clear hBY hbY hzY hkY KY)
    | fail)
  rw [HB5.out];rw [HB5.out] at N2;clear NZ2 O2 K3 D3' P2 HB5;go_wp2_with (first | (refine loaB D5.out [.int .i64 k, .string x, .string y, .int .i64 b, .slice A2 n c2] (fun j hj => by rw [Nat.zero_add]) rfl 45 _ rfl rfl _ Tryz.underlying45 rfl infoCm5 ?_) | (refine loaB D3.out [.int .i64 k, .string x, .string y, .int .i64 b, .slice A1 n c1] (fun j hj => by rw [Nat.zero_add]) rfl 45 _ rfl rfl _ Tryz.underlying45 rfl infoCm5 ?_) | fail)
  refine (Qoi k x y b Y2 (ms_of_sr Q3.out HN.out (fun i hi => by have := HSZ.out i hi; unfold maxLen; omega)) (ms_of_sr P3.out HN.out (fun i hi => by have := HSZ.out i hi; unfold maxLen; omega))).mono ?_;rintro e u3 ⟨rfl, hb⟩;have D5a : Hid (BX u3 b5 [.int .i64 k, .string x, .string y, .int .i64 b, .slice A2 n c2]) := D5.out.below (by simp) hb;have D3a : Hid (BX u3 b3 [.int .i64 k, .string x, .string y, .int .i64 b, .slice A1 n c1]) := D3.out.below (by simp) hb;have P4 : Hid (u3.ownsRow (w.heap.size + 1) 69 5 (.slice A1 n c1) n (QC srC L)) := Qi P3.out hb;have Q4 : Hid (u3.ownsRow (b3 + 1) 69 5 (.slice A2 n c2) n (QC srC L)) := Qi Q3.out hb;have K5 : Hid (Below w.heap.size w u3) := Qc K4.out hb
  clear hb D5 D3 P3 Q3 K4;cases ok
  all_goals
    go_wp2_with (first | (refine loaB D5a.out [.int .i64 k, .string x, .string y, .int .i64 b, .slice A2 n c2] (fun j hj => by rw [Nat.zero_add]) rfl 45 _ rfl rfl _ Tryz.underlying45 rfl infoCm5 ?_) | fail)
    refine (laws_markCmd k x y b 1 u3 Q4.out (by omega) (by omega) (by omega)).mono ?_;rintro e u4 ⟨rfl, ho, hg⟩;have hob : ∀ j, (Value.slice A2 n c2).ownBlock = some j → b3 < j ∧ j < b5 := N2.out;have D5b : Hid (BX u4 b5 [.int .i64 k, .string x, .string y, .int .i64 b, .slice A2 n c2]) := D5a.out.at (hg.block b5 (D5a.out.lt (by simp)) (fun e9 => by have := hob b5 e9.symm; omega));have D3b : Hid (BX u4 b3 [.int .i64 k, .string x, .string y, .int .i64 b, .slice A1 n c1]) := D3a.out.at (hg.block b3 (D3a.out.lt (by simp)) (fun e9 => by have := hob b3 e9.symm; omega));have Q5 : Hid (u4.ownsRow (b3 + 1) 69 5 (.slice A2 n c2) n (QC srC (mkL smMk 5 1 n))) := ho
    have P5 : Hid (u4.ownsRow (w.heap.size + 1) 69 5 (.slice A1 n c1) n (QC srC L)) := P4.out.kept hg (by
      cases hq : (Value.slice A1 n c1).ownBlock with
      | none => exact Or.inl rfl
      | some g =>
        right
        intro e9;have h1 := N1.out g hq;have h2 := (hob g (e9.symm)).1
        omega)
    have K6 : Hid (Below w.heap.size w u4) := K5.out.grown hg K5.out.size (fun j e9 => by have := hob j e9; omega);clear ho hg hob D5a D3a P4 Q4 K5;go_wp2_with (first | (refine loaB D5b.out [.int .i64 k, .string x, .string y, .int .i64 b, .slice A2 n c2] (fun j hj => by rw [Nat.zero_add]) rfl 45 _ rfl rfl _ Tryz.underlying45 rfl infoCm5 ?_) | fail)
    refine (laws_heldCmd k x y b 1 u4 (RowAt.of_own smL_len Q5.out (Qsq _ _ _ _)) (by omega) (by omega) (by omega)).mono ?_;rintro e u5 ⟨rfl, hb⟩;have D5c : Hid (BX u5 b5 [.int .i64 k, .string x, .string y, .int .i64 b, .slice A2 n c2]) := D5b.out.below (by simp) hb;have D3c : Hid (BX u5 b3 [.int .i64 k, .string x, .string y, .int .i64 b, .slice A1 n c1]) := D3b.out.below (by simp) hb;have Q6 : Hid (u5.ownsRow (b3 + 1) 69 5 (.slice A2 n c2) n (QC srC (mkL smMk 5 1 n))) := Qi Q5.out hb;have P6 : Hid (u5.ownsRow (w.heap.size + 1) 69 5 (.slice A1 n c1) n (QC srC L)) := Qi P5.out hb;have K7 : Hid (Below w.heap.size w u5) := Qc K6.out hb
    clear hb D5b D3b Q5 P5 K6;go_wp2_with fail
    refine (impl_ReadCmd s u5 hs (HG.out.below K7.out)).mono ?_;rintro e u6 ⟨⟨A6, n6, c6, rfl, hL, ho⟩, hb⟩;rw [HF.out] at hL ho ⊢;dsimp only at hL ho ⊢;obtain rfl : n = n6 := HN.out.symm.trans hL;rw [HK.out];have O6 : Hid (u6.ownsRow (u5.heap.size + 1) 69 5 (.slice A6 n c6) n (QC srC L)) := ho
    have D5d : Hid (BX u6 b5 [.int .i64 k, .string x, .string y, .int .i64 b, .slice A2 n c2]) := D5c.out.below (by simp) hb;have D3d : Hid (BX u6 b3 [.int .i64 k, .string x, .string y, .int .i64 b, .slice A1 n c1]) := D3c.out.below (by simp) hb;have Q7 : Hid (u6.ownsRow (b3 + 1) 69 5 (.slice A2 n c2) n (QC srC (mkL smMk 5 1 n))) := Qi Q6.out hb;have P7 : Hid (u6.ownsRow (w.heap.size + 1) 69 5 (.slice A1 n c1) n (QC srC L)) := Qi P6.out hb;have K8 : Hid (Below w.heap.size w u6) := Qc K7.out hb;clear ho hb hL D5c D3c Q6 P6 K7;obtain ⟨b9, HB9⟩ : ∃ b, Hid (u6.heap.size = b) := ⟨_, rfl⟩
    have NZ6 : Hid (BX (u6.alloc (.cells #[.int .i64 0, .string ⟨#[]⟩, .string ⟨#[]⟩, .int .i64 0, .slice none 0 0] 45)) u6.heap.size [.int .i64 0, .string ⟨#[]⟩, .string ⟨#[]⟩, .int .i64 0, .slice none 0 0]) := bx_new u6 _ _
    go_upto_region 16 with (first
      | (refine stoB NZ6.out [.int .i64 k, .string x, .string y, .int .i64 b, .slice A6 n c6] (by simp) rfl 45 _ _ rfl rfl rfl infoCm5 rfl ?_; intro Y6 hBY hbY hzY hkY
         have KY : Below u6.heap.size u6 Y6 := ((Below.refl _ _).alloc (Nat.le_refl _) _).trans hbY;have D9 : Hid (BX Y6 b9 [.int .i64 k, .string x, .string y, .int .i64 b, .slice A6 n c6]) := by rw [← HB9.out]; exact hBY
         have D5e : Hid (BX Y6 b5 [.int .i64 k, .string x, .string y, .int .i64 b, .slice A2 n c2]) := D5d.out.below (by simp) KY;have D3e : Hid (BX Y6 b3 [.int .i64 k, .string x, .string y, .int .i64 b, .slice A1 n c1]) := D3d.out.below (by simp) KY;have Q8 : Hid (Y6.ownsRow (b3 + 1) 69 5 (.slice A2 n c2) n (QC srC (mkL smMk 5 1 n))) := Qi Q7.out KY;have P8 : Hid (Y6.ownsRow (w.heap.size + 1) 69 5 (.slice A1 n c1) n (QC srC L)) := Qi P7.out KY;have R8 : Hid (Y6.ownsRow (u5.heap.size + 1) 69 5 (.slice A6 n c6) n (QC srC L)) := Qi O6.out KY;have K9 : Hid (Below w.heap.size w Y6) := Qc K8.out KY
         clear hBY hbY hzY hkY KY)
      | fail)
    rw [HB9.out];clear NZ6 O6 D5d D3d Q7 P7 K8 HB9;go_wp2_with (first | (refine loaB D9.out [.int .i64 k, .string x, .string y, .int .i64 b, .slice A6 n c6] (fun j hj => by rw [Nat.zero_add]) rfl 45 _ rfl rfl _ Tryz.underlying45 rfl infoCm5 ?_) | (refine loaB D3e.out [.int .i64 k, .string x, .string y, .int .i64 b, .slice A1 n c1] (fun j hj => by rw [Nat.zero_add]) rfl 45 _ rfl rfl _ Tryz.underlying45 rfl infoCm5 ?_) | fail)
    refine (Qoi k x y b Y6 (ms_of_sr R8.out HN.out (fun i hi => by have := HSZ.out i hi; unfold maxLen; omega)) (ms_of_sr P8.out HN.out (fun i hi => by have := HSZ.out i hi; unfold maxLen; omega))).mono ?_;rintro e u7 ⟨rfl, hb⟩;have D5f : Hid (BX u7 b5 [.int .i64 k, .string x, .string y, .int .i64 b, .slice A2 n c2]) := D5e.out.below (by simp) hb;have Q9 : Hid (u7.ownsRow (b3 + 1) 69 5 (.slice A2 n c2) n (QC srC (mkL smMk 5 1 n))) := Qi Q8.out hb;have KA : Hid (Below w.heap.size w u7) := Qc K9.out hb;clear hb D5e D3e D9 Q8 P8 R8 K9;go_wp2_with (first | (refine loaB D5f.out [.int .i64 k, .string x, .string y, .int .i64 b, .slice A2 n c2] (fun j hj => by rw [Nat.zero_add]) rfl 45 _ rfl rfl _ Tryz.underlying45 rfl infoCm5 ?_) | fail)
    refine (laws_heldCmd k x y b 1 u7 (RowAt.of_own smL_len Q9.out (Qsq _ _ _ _)) (by omega) (by omega) (by omega)).mono ?_;rintro e u8 ⟨rfl, hb⟩;have KB : Hid (Below w.heap.size w u8) := Qc KA.out hb;clear hb D5f Q9 KA;go_wp2_with fail
    go_ret;exact ⟨rfl, KB.out⟩
end Go.Proofs.YtejbnnacghbhoaaGreatDoor
