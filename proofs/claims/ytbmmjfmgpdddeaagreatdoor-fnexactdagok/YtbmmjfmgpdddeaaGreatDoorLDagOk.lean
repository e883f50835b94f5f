import Derived.Test.YtbmmjfmgpdddeaaGreatDoorVsC
import Derived.Test.YtbmmjfmgpdddeaaGreatDoorGzk
set_option linter.unusedSimpArgs false
set_option linter.unusedVariables false
set_option maxHeartbeats 4000000
set_option maxRecDepth 100000
namespace Go.Proofs.YtbmmjfmgpdddeaaGreatDoor
open Go.RowKit
theorem law_FnExactDagOk (v:Value) (d:DG) (w:World) (h:DgRow w v d) (hk:DgOk d) (hg:GI w):Calls Tryz.prog 3 #[v] w fun e w'=>
  e= .returned (.bool true)∧Below w.heap.size w w':=by
 obtain⟨A,n,c,B,m,q,rfl⟩:=h.agg
 have HR:Hid (DgRow w (.agg #[.int .i64 d.next,.slice A n c,.slice B m q]) d):=h
 have HK:Hid (DgOk d):=hk
 have HG:Hid (GI w):=hg
 obtain⟨f,HFF⟩: ∃f:Bool,Hid (f=dagB d):=⟨_,rfl⟩
 have e1:(f==f)=true:=by simp
 clear h hk hg
 go_enter Tryz.func3,Tryz.ntmps3
 go_wp2_with fail
 obtain⟨X,HX⟩: ∃X,Hid (w.alloc (.cells #[.int .i64 d.next,.slice A n c,.slice B m q] 25)=X):=⟨_,rfl⟩
 rw [HX.out]
 have c_0:X.cell? ⟨w.heap.size,0,none⟩=some (.int .i64 d.next):=by rw [←HX.out];go_simp
 have c_1:X.cell? ⟨w.heap.size,1,none⟩=some (.slice A n c):=by rw [←HX.out];go_simp
 have c_2:X.cell? ⟨w.heap.size,2,none⟩=some (.slice B m q):=by rw [←HX.out];go_simp
 have zX:w.heap.size<X.heap.size:=by rw [←HX.out];simp
 have KX:Hid (Below w.heap.size w X):=by rw [←HX.out];show Below _ _ _;go_grown
 clear HX
 refine(laws_szDag _ (HR.out.below KX.out) HK.out).mono ?_
 rintro e u1 ⟨z,rfl,hz,hb⟩
 replace c_0:=cy hb c_0
 replace c_1:=cy hb c_1
 replace c_2:=cy hb c_2
 replace zX:w.heap.size<u1.heap.size:=Nat.lt_of_lt_of_le zX hb.size
 replace KX:Hid (Below w.heap.size w u1):=bchain KX.out hb
 clear hb
 by_cases hneg:z<0
 ·go_wp2_with fail
  go_ret
  exact⟨rfl,KX.out⟩
 have HL:Hid (DgLil d):=hz (by omega)
 clear hz
 go_wp2_with fail
 refine(laws_toDag _ (HR.out.below KX.out) HL.out).mono ?_
 rintro e u2 ⟨v2,rfl,ho,hb⟩
 have hr:=ho.row HK.out
 obtain⟨A2,n2,c2,B2,m2,q2,rfl⟩:=hr.agg
 have R1:Hid (DgRow u2 (.agg #[.int .i64 d.next,.slice A2 n2 c2,.slice B2 m2 q2]) d):=hr
 replace c_0:=cy hb c_0
 replace c_1:=cy hb c_1
 replace c_2:=cy hb c_2
 replace zX:w.heap.size<u2.heap.size:=Nat.lt_of_lt_of_le zX hb.size
 replace KX:Hid (Below w.heap.size w u2):=bchain KX.out hb
 clear hb hr ho
 go_wp2_with fail
 refine(spec_DagOk _ R1.out HK.out).mono ?_
 rintro e u3 ⟨rfl,hb⟩
 rw [←HFF.out]
 replace c_0:=cy hb c_0
 replace c_1:=cy hb c_1
 replace c_2:=cy hb c_2
 replace zX:w.heap.size<u3.heap.size:=Nat.lt_of_lt_of_le zX hb.size
 replace KX:Hid (Below w.heap.size w u3):=bchain KX.out hb
 clear hb R1
 go_wp2_with fail
 refine(laws_toDag _ (HR.out.below KX.out) HL.out).mono ?_
 rintro e u4 ⟨v4,rfl,ho,hb⟩
 have hr:=ho.row HK.out
 obtain⟨A4,n4,c4,B4,m4,q4,rfl⟩:=hr.agg
 have R2:Hid (DgRow u4 (.agg #[.int .i64 d.next,.slice A4 n4 c4,.slice B4 m4 q4]) d):=hr
 replace c_0:=cy hb c_0
 replace c_1:=cy hb c_1
 replace c_2:=cy hb c_2
 replace zX:w.heap.size<u4.heap.size:=Nat.lt_of_lt_of_le zX hb.size
 replace KX:Hid (Below w.heap.size w u4):=bchain KX.out hb
 clear hb hr ho
 go_wp2_with fail
 obtain⟨Y,HY⟩: ∃X,Hid (u4.alloc (.cells #[.int .i64 d.next,.slice A4 n4 c4,.slice B4 m4 q4] 31)=X):=⟨_,rfl⟩
 rw [HY.out]
 have hb:Below u4.heap.size u4 Y:=by rw [←HY.out];go_grown
 have d_0:Y.cell? ⟨u4.heap.size,0,none⟩=some (.int .i64 d.next):=by rw [←HY.out];go_simp
 have d_1:Y.cell? ⟨u4.heap.size,1,none⟩=some (.slice A4 n4 c4):=by rw [←HY.out];go_simp
 have d_2:Y.cell? ⟨u4.heap.size,2,none⟩=some (.slice B4 m4 q4):=by rw [←HY.out];go_simp
 have zY:u4.heap.size<Y.heap.size:=by rw [←HY.out];simp
 replace c_0:=cy hb c_0
 replace c_1:=cy hb c_1
 replace c_2:=cy hb c_2
 replace zX:w.heap.size<Y.heap.size:=Nat.lt_of_lt_of_le zX hb.size
 replace KX:Hid (Below w.heap.size w Y):=bchain KX.out hb
 replace R2:Hid (DgRow Y (.agg #[.int .i64 d.next,.slice A4 n4 c4,.slice B4 m4 q4]) d):=R2.out.below hb
 clear hb HY
 refine(impl_DagOk _ R2.out HK.out HL.out (HG.out.below KX.out)).mono ?_
 rintro e u5 ⟨rfl,hb⟩
 rw [←HFF.out]
 replace c_0:=cy hb c_0
 replace c_1:=cy hb c_1
 replace c_2:=cy hb c_2
 replace d_0:=cy hb d_0
 replace d_1:=cy hb d_1
 replace d_2:=cy hb d_2
 replace zX:w.heap.size<u5.heap.size:=Nat.lt_of_lt_of_le zX hb.size
 replace zY:u4.heap.size<u5.heap.size:=Nat.lt_of_lt_of_le zY hb.size
 replace KX:Hid (Below w.heap.size w u5):=bchain KX.out hb
 replace R2:Hid (DgRow u5 (.agg #[.int .i64 d.next,.slice A4 n4 c4,.slice B4 m4 q4]) d):=R2.out.below hb
 clear hb
 go_wp2_with fail
 go_region_held3 (fun w'=>(∀bq oq,bq<u5.heap.size→w'.cell? ⟨bq,oq,none⟩=u5.cell? ⟨bq,oq,none⟩)∧u5.heap.size≤w'.heap.size∧Below u5.heap.size u5 w')
  (exact sc_of (Nat.le_refl _) (by go_grown))
  (first
  | (go_at_call 10;refine(laws_toDag _ (HR.out.below (bchain KX.out (by go_grown))) HL.out).mono ?_;rintro e y1 ⟨v6,rfl,ho,hb⟩;have R3:Hid (DgRow y1 v6 d):=ho.row HK.out;obtain⟨hk1,hz1⟩:=bframe (B:=u5.heap.size) (X:=u5) (by go_grown) (by go_size) hb;clear hb ho)
  | (go_at_call 12;refine(laws_eqDag _ (R2.out.below hk1) R3.out).mono ?_;rintro e y2 ⟨rfl,hb⟩;obtain⟨hk2,hz2⟩:=bframe (B:=u5.heap.size) (X:=u5) hk1 hz1 hb;clear hb))
 all_goals
  go_wp2_with fail
  go_ret
  exact⟨rfl,bchain KX.out (by go_grown)⟩
end Go.Proofs.YtbmmjfmgpdddeaaGreatDoor
