import Derived.Test.YtbdhinckiccniaaGreatDoorGza
import Derived.Test.YtbdhinckiccniaaGreatDoorGaj
import Derived.Test.YtbdhinckiccniaaGreatDoorGar
set_option linter.unusedSimpArgs false
set_option linter.unusedVariables false
set_option maxHeartbeats 4000000
set_option maxRecDepth 100000
namespace Go.Proofs.YtbdhinckiccniaaGreatDoor
open Go.RowKit
theorem Qj (a b:Int) (x y:Bool) (w:World):Calls Tryz.prog 68 #[.agg #[.int .i64 a,.int .i64 b,.bool x,.bool y]] w fun e w'=>
  ∃t:ByteArray,e= .returned (.string t)∧t.size≤6∧Below w.heap.size w w':=by
 cases h:Qh a b
 ·refine(Xt a b x y w h).mono ?_;rintro e w' ⟨rfl,hb⟩;exact⟨_,rfl,by decide,hb⟩
 ·have h':=of_decide_eq_true (show decide (1≤a∧a≤52∧1≤b∧b≤99)=true from h);obtain⟨i,rfl⟩: ∃i:Nat,b=(i:Int):=⟨b.toNat,by omega⟩;refine(Zc a i x y w (by omega) h).mono ?_;rintro e w' ⟨rfl,hb⟩;refine⟨_,rfl,?_,hb⟩;rw [Qw,ByteArray.size_append,ByteArray.size_append,ByteArray.size_append];have h1:=Xl x
  have h2:=Xl y;have h3:=Xh a;have h4:=Xg i;omega
theorem Qfq (r:Nat) (A:Option Addr) (len cap:Nat) (w:World) (hr:Rd w r A len cap):Calls Tryz.prog 20 #[.pointer (some ⟨r,0,none⟩)] w fun e w'=>
  ∃a b c d,e= .returned (.agg #[.int .i64 a,.int .i64 b,.int .i64 c,.int .i64 d])∧Rd w' r A len cap∧Upd r w w':=by
 have HH:Hid (Rd w r A len cap):=hr;have hne:=XT hr.lt;have HL:Hid (r≤w.heap.size):=Nat.le_of_lt hr.lt;clear hr;go_enter Tryz.func20,Tryz.ntmps20;go_wp2_with fail
 refine(Ux r A len cap _ (HH.out.below (by go_grown))).mono ?_;rintro e w1 ⟨x,y,rfl,x0,x1,y0,y1,hr,hu⟩;have HR1:Hid (Rd w1 r A len cap):=hr;have HU1:Hid (Upd r w w1):=(Upd.of_below HL.out (by go_grown)).trans hu;have hl1:w.heap.size<w1.heap.size:=Nat.lt_of_lt_of_le (by go_size) hu.2.2.1;have hr1:=XT hr.lt;obtain⟨uc1,uf1,uz1,ub1⟩:=hu
 clear hr ub1;go_wp2_with fail
 refine(Ux r A len cap _ (HR1.out.below (by go_grown))).mono ?_;rintro e w2 ⟨x',y',rfl,x0',x1',y0',y1',hr,hu⟩;have HR2:Hid (Rd w2 r A len cap):=hr;have HU2:Hid (Upd r w w2):=HU1.out.trans ((Upd.of_below (Nat.le_of_lt HR1.out.lt) (by go_grown)).trans hu);have l12:w1.heap.size<w2.heap.size:=Nat.lt_of_lt_of_le (by go_size) hu.2.2.1;have hl2:w.heap.size<w2.heap.size:=by omega
 have hr2:=XT hr.lt;obtain⟨uc2,uf2,uz2,ub2⟩:=hu;have a0:w2.cell? ⟨w1.heap.size,0,none⟩=some (.int .i64 x):=by rw [uc2 _ _ (by simp) (by omega)];simp
 have a1:w2.cell? ⟨w1.heap.size,1,none⟩=some (.int .i64 y):=by rw [uc2 _ _ (by simp) (by omega)];simp
 have b0: ∀o,w2.cell? ⟨w.heap.size,o,none⟩=(w.alloc (.cells #[.int .i64 0,.int .i64 0,.int .i64 0,.int .i64 0] 29)).cell? ⟨w.heap.size,o,none⟩:=fun o=>(uc2 _ _ (by simp;omega) (by omega)).trans ((((Below.refl _ _).alloc (Nat.le_refl _) _:Below w1.heap.size w1 (w1.alloc _)).cell (p:=⟨w.heap.size,o,none⟩) (by show w.heap.size<_;omega)).trans (uc1 _ _ (by simp) (by omega)));have b1: ∀o,w2.frozen? ⟨w.heap.size,o,none⟩=(w.alloc (.cells #[.int .i64 0,.int .i64 0,.int .i64 0,.int .i64 0] 29)).frozen? ⟨w.heap.size,o,none⟩:=fun o=>(uf2 _ _ (by simp;omega) (by omega)).trans ((((Below.refl _ _).alloc (Nat.le_refl _) _:Below w1.heap.size w1 (w1.alloc _)).frozen (p:=⟨w.heap.size,o,none⟩) (by show w.heap.size<_;omega)).trans (uf1 _ _ (by simp) (by omega)));clear hr ub2 uc1 uf1 uz1 uc2 uf2 uz2;go_wp2_with fail
 refine(XF r A len cap 20 _ (HR2.out.below (by go_grown)) (by omega) (by omega)).mono ?_;rintro e w3 ⟨bb,rfl,hr,hu⟩;have HR3:Hid (Rd w3 r A len cap):=hr;have HU3:Hid (Upd r w w3):=HU2.out.trans ((Upd.of_below (Nat.le_of_lt HR2.out.lt) (by go_grown)).trans hu);have l23:w2.heap.size+1<w3.heap.size:=Nat.lt_of_lt_of_le (by go_size) hu.2.2.1;have hl3:w.heap.size<w3.heap.size:=by omega
 have hrl:=HR2.out.lt;obtain⟨uc3,uf3,uz3,ub3⟩:=hu;have o3: ∀o,w3.cell? ⟨w2.heap.size+1,o,none⟩=((w2.alloc (.cells #[.int .i64 x',.int .i64 y'] 27)).alloc (.cells #[.int .i64 (min x x'),.int .i64 (min y y'),.int .i64 (max x x'),.int .i64 (max y y')] 29)).cell? ⟨w2.heap.size+1,o,none⟩:=fun o=>uc3 _ _ (by simp) (by omega);have of3: ∀o,w3.frozen? ⟨w2.heap.size+1,o,none⟩=((w2.alloc (.cells #[.int .i64 x',.int .i64 y'] 27)).alloc (.cells #[.int .i64 (min x x'),.int .i64 (min y y'),.int .i64 (max x x'),.int .i64 (max y y')] 29)).frozen? ⟨w2.heap.size+1,o,none⟩:=fun o=>uf3 _ _ (by simp) (by omega);have ba:Below w2.heap.size w2 ((w2.alloc (.cells #[.int .i64 x',.int .i64 y'] 27)).alloc (.cells #[.int .i64 (min x x'),.int .i64 (min y y'),.int .i64 (max x x'),.int .i64 (max y y')] 29)):=by go_grown
 have b3: ∀o,w3.cell? ⟨w.heap.size,o,none⟩=(w.alloc (.cells #[.int .i64 0,.int .i64 0,.int .i64 0,.int .i64 0] 29)).cell? ⟨w.heap.size,o,none⟩:=fun o=>(uc3 _ _ (by simp;omega) (by omega)).trans ((ba.cell (p:=⟨w.heap.size,o,none⟩) hl2).trans (b0 o));have bf3: ∀o,w3.frozen? ⟨w.heap.size,o,none⟩=(w.alloc (.cells #[.int .i64 0,.int .i64 0,.int .i64 0,.int .i64 0] 29)).frozen? ⟨w.heap.size,o,none⟩:=fun o=>(uf3 _ _ (by simp;omega) (by omega)).trans ((ba.frozen (p:=⟨w.heap.size,o,none⟩) hl2).trans (b1 o));clear hr ub3 uc3 uf3 uz3 ba a0 a1 b0 b1;cases bb
 ·go_wp2_with fail
  refine bodyPost_ret (v:= .agg #[.int .i64 (min x x'),.int .i64 (min y y'),.int .i64 (max x x'),.int .i64 (max y y')]) ?_ rfl ⟨_,_,_,_,rfl,HH.out.carry HR3.out HU3.out (by go_grown)⟩;simp (maxDischargeDepth:=9) [results,Tryz.results20,go_sem, *]
 ·go_wp2_with fail
  refine(Qsf r A len cap 1 99 _ HR3.out (by omega) (by omega) (by omega)).mono ?_;rintro e w4 ⟨z,rfl,hr,hu⟩;have HR4:Hid (Rd w4 r A len cap):=hr;have HU4:Hid (Upd r w w4):=HU3.out.trans hu;have l24:w2.heap.size+1<w4.heap.size:=Nat.lt_of_lt_of_le l23 hu.2.2.1;have hl4:w.heap.size<w4.heap.size:=by omega
  obtain⟨uc4,uf4,uz4,ub4⟩:=hu;have o4: ∀o,w4.cell? ⟨w2.heap.size+1,o,none⟩=((w2.alloc (.cells #[.int .i64 x',.int .i64 y'] 27)).alloc (.cells #[.int .i64 (min x x'),.int .i64 (min y y'),.int .i64 (max x x'),.int .i64 (max y y')] 29)).cell? ⟨w2.heap.size+1,o,none⟩:=fun o=>(uc4 _ _ l23 (by omega)).trans (o3 o);have of4: ∀o,w4.frozen? ⟨w2.heap.size+1,o,none⟩=((w2.alloc (.cells #[.int .i64 x',.int .i64 y'] 27)).alloc (.cells #[.int .i64 (min x x'),.int .i64 (min y y'),.int .i64 (max x x'),.int .i64 (max y y')] 29)).frozen? ⟨w2.heap.size+1,o,none⟩:=fun o=>(uf4 _ _ l23 (by omega)).trans (of3 o);have b4: ∀o,w4.cell? ⟨w.heap.size,o,none⟩=(w.alloc (.cells #[.int .i64 0,.int .i64 0,.int .i64 0,.int .i64 0] 29)).cell? ⟨w.heap.size,o,none⟩:=fun o=>(uc4 _ _ hl3 (by omega)).trans (b3 o);have bf4: ∀o,w4.frozen? ⟨w.heap.size,o,none⟩=(w.alloc (.cells #[.int .i64 0,.int .i64 0,.int .i64 0,.int .i64 0] 29)).frozen? ⟨w.heap.size,o,none⟩:=fun o=>(uf4 _ _ hl3 (by omega)).trans (bf3 o);have n1: ¬w.heap.size=w2.heap.size+1:=by omega
  have n2: ¬w2.heap.size+1=w.heap.size:=by omega
  clear hr ub4 uc4 uf4 uz4 o3 of3 b3 bf3;go_wp2_with fail
  all_goals
   refine bodyPost_ret (v:= .agg #[.int .i64 (min x x'),.int .i64 (min y y'),.int .i64 (max x x'),.int .i64 z]) ?_ rfl ⟨_,_,_,_,rfl,HH.out.carry HR4.out HU4.out (by go_grown)⟩;simp (maxDischargeDepth:=9) [results,Tryz.results20,go_sem, *]
def fB:Nat→Nat
 | 0=>16
 | d+1=>3*fB d+21
def FtC (d:Nat):Prop:= ∀(r:Nat) (A:Option Addr) (len cap:Nat) (w:World),Rd w r A len cap→Calls Tryz.prog 93 #[.pointer (some ⟨r,0,none⟩),.int .i64 d] w fun e w'=>
  ∃t:ByteArray,e= .returned (.string t)∧t.size≤fB d∧Rd w' r A len cap∧Upd r w w'
theorem Qii : FtC 0 := by
  intro r A len cap w hr;have FB : ∀ {t : ByteArray}, t.size ≤ 6 → t.size ≤ fB 0 := fun h => Nat.le_trans h (by decide);have FC : ∀ {t : ByteArray}, t.size ≤ 16 → t.size ≤ fB 0 := fun h => Nat.le_trans h (by decide);have HR1 : Hid (Rd w r A len cap) := hr;have HU1 : Hid (Upd r w w) := Upd.draws r w 0;clear hr;go_enter Tryz.func93, Tryz.ntmps93
  go_wp2_with fail
  refine (Qy r A len cap 7 _ HR1.out (by omega) (by omega)).mono ?_;rintro e w2 ⟨v, rfl, v0, v1, hr, hu⟩;have HR2 : Hid (Rd w2 r A len cap) := hr;have HU2 : Hid (Upd r w w2) := HU1.out.trans hu;clear hr hu HR1 HU1;have hv : v = 0 ∨ v = 1 ∨ v = 2 ∨ v = 3 ∨ v = 4 ∨ v = 5 ∨ v = 6 := by omega
  clear v0 v1;rcases hv with rfl | rfl | rfl | rfl | rfl | rfl | rfl
  iterate 3
    (rotate_left 0
     go_wp2_with fail
     refine (Ux r A len cap _ HR2.out).mono ?_;rintro e w3 ⟨x, y, rfl, x0, x1, y0, y1, hr, hu⟩;have HR3 : Hid (Rd w3 r A len cap) := hr;have HU3 : Hid (Upd r w w3) := HU2.out.trans hu;clear hr hu;go_wp2_with fail
     refine (XF r A len cap 5 _ HR3.out (by omega) (by omega)).mono ?_;rintro e w4 ⟨p, rfl, hr, hu⟩;have HR4 : Hid (Rd w4 r A len cap) := hr;have HU4 : Hid (Upd r w w4) := HU3.out.trans hu;clear hr hu;go_wp2_with fail
     refine (XF r A len cap 5 _ HR4.out (by omega) (by omega)).mono ?_;rintro e w5 ⟨q, rfl, hr, hu⟩;have HR5 : Hid (Rd w5 r A len cap) := hr;have HU5 : Hid (Upd r w w5) := HU4.out.trans hu;clear hr hu;go_wp2_with fail
     refine (Qj _ _ _ _ _).mono ?_;rintro e w6 ⟨t, rfl, ht, hb⟩;have HT : Hid (t.size ≤ 6) := ht;have HR6 : Hid (Rd w6 r A len cap) := HR5.out.below hb;have HU6 : Hid (Upd r w w6) := HU5.out.trans (Upd.of_below (Nat.le_of_lt HR5.out.lt) hb);clear hb ht;go_wp2_with fail
     go_ret
     exact ⟨t, rfl, FB HT.out, HR6.out, HU6.out⟩)
  · go_wp2_with fail
    refine (Qy r A len cap 6 _ (HR2.out.below (by go_grown)) (by omega) (by omega)).mono ?_;rintro e w3 ⟨v, rfl, v0, v1, hr, hu⟩;have hl2 := HR2.out.lt;have HR3 : Hid (Rd w3 r A len cap) := hr;have HU3 : Hid (Upd r w w3) := HU2.out.trans ((Upd.of_below (Nat.le_of_lt hl2) (by go_grown)).trans hu);have nr : ¬ w2.heap.size = r := by omega
    obtain ⟨uc, uf, uz, ub⟩ := hu;clear hr ub;have hv : v = 0 ∨ v = 1 ∨ v = 2 ∨ v = 3 ∨ v = 4 ∨ v = 5 := by omega
    rcases hv with rfl | rfl | rfl | rfl | rfl | rfl
    all_goals
      go_wp2_with fail
      go_ret;exact ⟨_, rfl, FB (by decide), HR3.out, HU3.out⟩
  all_goals
    go_wp2_with fail
    refine (Qy r A len cap 12 _ HR2.out (by omega) (by omega)).mono ?_;rintro e w3 ⟨v, rfl, v0, v1, hr, hu⟩;have HR3 : Hid (Rd w3 r A len cap) := hr;have HU3 : Hid (Upd r w w3) := HU2.out.trans hu;clear hr hu;go_wp2_with fail
    refine (YN v _ (decide_eq_true (by omega))).mono ?_;rintro e w4 ⟨rfl, hb⟩
    have HT : Hid ((itB v).size ≤ 16) := (by
      obtain ⟨m, rfl⟩ : ∃ m : Nat, v = (m : Int) := ⟨v.toNat, by omega⟩
      exact Jd (by omega))
    obtain ⟨t, HTT⟩ : ∃ t, Hid (itB v = t) := ⟨_, rfl⟩;rw [HTT.out] at HT ⊢;have HR4 : Hid (Rd w4 r A len cap) := HR3.out.below hb;have HU4 : Hid (Upd r w w4) := HU3.out.trans (Upd.of_below (Nat.le_of_lt HR3.out.lt) hb);clear hb;go_wp2_with fail
    go_ret;exact ⟨t, rfl, FC HT.out, HR4.out, HU4.out⟩
def FtX (n:Int) (B:Nat):Prop:= ∀(r:Nat) (A:Option Addr) (len cap:Nat) (w:World),Rd w r A len cap→Calls Tryz.prog 93 #[.pointer (some ⟨r,0,none⟩),.int .i64 n] w fun e w'=>
  ∃t:ByteArray,e= .returned (.string t)∧t.size≤B∧Rd w' r A len cap∧Upd r w w'
theorem DZ {x y:ByteArray} {B:Nat} (h:x.size+y.size≤B) (hB:B≤1000000): ∀W,(Op.stringOp .add x y).run Tryz.prog W= .ok (.string (x++y)) W:=Qg3 x y (by omega)
theorem Qbr (H1 : FtX 1 69) (H2 : FtX 2 228) (r : Nat) (A : Option Addr) (len cap : Nat) (w : World) (hr : Rd w r A len cap) : Calls Tryz.prog 46 #[.pointer (some ⟨r, 0, none⟩)] w fun e w' =>
    ∃ t : ByteArray, e = .returned (.string t) ∧ t.size ≤ 300 ∧ Rd w' r A len cap ∧ Upd r w w' := by
  have HR0 : Hid (Rd w r A len cap) := hr;clear hr;go_enter Tryz.func46, Tryz.ntmps46;go_wp2_with fail
  refine (Qy r A len cap 8 _ HR0.out (by omega) (by omega)).mono ?_;rintro e w2 ⟨v, rfl, v0, v1, hr, hu⟩;have HR2 : Hid (Rd w2 r A len cap) := hr;have HU2 : Hid (Upd r w w2) := hu;clear hr hu HR0;have hv : v = 0 ∨ v = 1 ∨ v = 2 ∨ v = 7 ∨ v = 3 ∨ v = 4 ∨ v = 5 ∨ v = 6 := by omega
  clear v0 v1;rcases hv with rfl | rfl | rfl | rfl | rfl | rfl | rfl | rfl
  iterate 3
    (rotate_left 0
     go_wp2_with fail
     refine (H2 r A len cap _ HR2.out).mono ?_;rintro e w3 ⟨t, rfl, ht, hr, hu⟩;have HR3 : Hid (Rd w3 r A len cap) := hr;have HU3 : Hid (Upd r w w3) := HU2.out.trans hu;clear hr hu;have a1 := DZ (x := ⟨#[61]⟩) (y := t) (B := 300) (by show 1 + t.size ≤ _; omega) (by omega);go_wp2_with fail
     go_ret
     exact ⟨_, rfl, by rw [ByteArray.size_append]; show 1 + t.size ≤ _; omega, HR3.out, HU3.out⟩)
  · go_wp2_with fail
    refine (H1 r A len cap _ HR2.out).mono ?_;rintro e w3 ⟨t, rfl, ht, hr, hu⟩;have HR3 : Hid (Rd w3 r A len cap) := hr;have HU3 : Hid (Upd r w w3) := HU2.out.trans hu;clear hr hu;have a1 := DZ (x := ⟨#[61]⟩) (y := t) (B := 300) (by show 1 + t.size ≤ _; omega) (by omega);go_wp2_with fail
    go_ret;exact ⟨_, rfl, by rw [ByteArray.size_append]; show 1 + t.size ≤ _; omega, HR3.out, HU3.out⟩
  iterate 2
    (rotate_left 0
     go_wp2_with fail
     refine (Qy r A len cap 20 _ HR2.out (by omega) (by omega)).mono ?_;rintro e w3 ⟨v, rfl, v0, v1, hr, hu⟩;have HR3 : Hid (Rd w3 r A len cap) := hr;have HU3 : Hid (Upd r w w3) := HU2.out.trans hu;clear hr hu;go_wp2_with fail
     refine (YN v _ (decide_eq_true (by omega))).mono ?_;rintro e w4 ⟨rfl, hb⟩
     have HT : Hid ((itB v).size ≤ 16) := (by
       obtain ⟨m, rfl⟩ : ∃ m : Nat, v = (m : Int) := ⟨v.toNat, by omega⟩
       exact Jd (by omega))
     obtain ⟨t, HTT⟩ : ∃ t, Hid (itB v = t) := ⟨_, rfl⟩;rw [HTT.out] at HT ⊢;have HR4 : Hid (Rd w4 r A len cap) := HR3.out.below hb;have HU4 : Hid (Upd r w w4) := HU3.out.trans (Upd.of_below (Nat.le_of_lt HR3.out.lt) hb);clear hb;go_wp2_with fail
     go_ret
     exact ⟨t, rfl, Nat.le_trans HT.out (by decide), HR4.out, HU4.out⟩)
  · go_wp2_with fail
    refine (Qy r A len cap 8 _ (HR2.out.below (by go_grown)) (by omega) (by omega)).mono ?_;rintro e w3 ⟨v, rfl, v0, v1, hr, hu⟩;have hl2 := HR2.out.lt;have HR3 : Hid (Rd w3 r A len cap) := hr;have HU3 : Hid (Upd r w w3) := HU2.out.trans ((Upd.of_below (Nat.le_of_lt hl2) (by go_grown)).trans hu);have nr : ¬ w2.heap.size = r := by omega
    obtain ⟨uc, uf, uz, ub⟩ := hu;clear hr ub;have hv : v = 0 ∨ v = 1 ∨ v = 2 ∨ v = 3 ∨ v = 4 ∨ v = 5 ∨ v = 6 ∨ v = 7 := by omega
    rcases hv with rfl | rfl | rfl | rfl | rfl | rfl | rfl | rfl
    all_goals
      go_wp2_with fail
      go_ret;exact ⟨_, rfl, by decide, HR3.out, HU3.out⟩
  · go_wp2_with fail
    go_ret;exact ⟨_, rfl, by decide, HR2.out, HU2.out⟩
end Go.Proofs.YtbdhinckiccniaaGreatDoor
