import Derived.Test.YtbmmjfmgpdddeaaGreatDoorVsC
import Derived.Test.YtbmmjfmgpdddeaaGreatDoorGzk
set_option linter.unusedSimpArgs false
set_option linter.unusedVariables false
set_option maxHeartbeats 4000000
set_option maxRecDepth 100000
namespace Go.Proofs.YtbmmjfmgpdddeaaGreatDoor
open Go.RowKit Go.Maps
def headF (L:List BR) (s:ByteArray):Int:=match L.find? (fun x=>decide (x.n=s))with | some x=>x.h | none=>0
theorem headF_at {L:List BR} {s:ByteArray} {k:Nat} {x:BR} (hx:L[k]? =some x) (he:x.n=s) (h: ∀(t:Nat) y,t<k→L[t]? =some y→y.n≠s):headF L s=x.h:=by
 have e:L.find? (fun x=>decide (x.n=s))=some x:=by
  obtain⟨hk,hx2⟩:=List.getElem?_eq_some_iff.1 hx
  refine List.find?_eq_some_iff_getElem.2 ⟨by simpa using he,k,hk,hx2,fun j hj=> ?_⟩
  have:=h j (L[j]'(by omega)) hj (List.getElem?_eq_getElem (by omega))
  simpa using this
 rw [headF,e]
theorem headF_no {L:List BR} {s:ByteArray} (h: ∀(t:Nat) y,t<L.length→L[t]? =some y→y.n≠s):headF L s=0:=by
 have e:L.find? (fun x=>decide (x.n=s))=none:=by
  rw [List.find?_eq_none]
  intro x hx
  obtain⟨t,ht,rfl⟩:=List.mem_iff_getElem.1 hx
  simpa using h t _ ht (List.getElem?_eq_getElem ht)
 rw [headF,e]
theorem spec_l10Head {v:Value} {d:DG} (s:ByteArray) (w:World) (h:DgRow w v d) (hx:DgOk d):
  Calls Tryz.prog 47 #[v,.string s] w fun e w'=>e= .returned (.int .i64 (headF d.bs s))∧Below w.heap.size w w':=by
 obtain⟨A1,n1,c1,A2,n2,c2,rfl⟩:=h.agg
 obtain⟨r1,e1,r2,e2⟩:=h.open
 have R1:Hid (BrRow w A2 d.bs):=r2
 have E1:Hid (d.bs.length=n2):=e2
 have hn:=r2.1
 rw [e2]at hn
 unfold maxLen at hn
 clear h r1 r2 e1 e2
 go_enter Tryz.func47,Tryz.ntmps47
 go_wp2_with fail
 obtain⟨X,HX⟩: ∃X,Hid (w.alloc (.cells #[.int .i64 d.next,.slice A1 n1 c1,.slice A2 n2 c2] 31)=X):=⟨_,rfl⟩
 rw [HX.out]
 have x1:X.cell? ⟨w.heap.size,2,none⟩=some (.slice A2 n2 c2):=by rw [←HX.out];go_simp
 have zX:w.heap.size<X.heap.size:=by rw [←HX.out];simp
 have hbX:Below w.heap.size w X:=by rw [←HX.out];go_grown
 clear HX
 go_loopw [5] (fun i wr=> ∃k:Nat,k≤n2∧i= .int .i64 k∧(∀(t:Nat) x,t<k→d.bs[t]? =some x→x.n≠s)∧Below X.heap.size X wr) (fun i _=>n2-(intOf i).toNat)
 case atStart=>exact⟨0,Nat.zero_le _,rfl,fun t x ht=>by omega,Below.refl _ _⟩
 case round=>
  obtain⟨k,hk,rfl,hall,hbel⟩:=hrel
  have HA:Hid (∀(t:Nat) x,t<k→d.bs[t]? =some x→x.n≠s):=hall
  have KX:Hid (Below w.heap.size w wr):=bchain hbX hbel
  have KB:Hid (Below X.heap.size X wr):=hbel
  have y1:wr.cell? ⟨w.heap.size,2,none⟩=some (.slice A2 n2 c2):=cy hbel x1
  have zw:w.heap.size<wr.heap.size:=Nat.lt_of_lt_of_le zX hbel.size
  clear hall hbel
  by_cases hlt:k<n2
  ·obtain⟨x,hx⟩:=at_lt E1.out hlt
   have HX:Hid (d.bs[k]? =some x):=hx
   obtain⟨b,o,rfl,hl,hc⟩:=R1.out.2 k x hx
   have c0:w.cell? ⟨b,o+k*2,none⟩=some (.string x.n):=hc 0 _ rfl
   have c1:w.cell? ⟨b,o+k*2+1,none⟩=some (.int .i64 x.h):=hc 1 _ rfl
   rw [←KX.out.cell (p:=⟨_,_,none⟩) hl]at c0 c1
   have hl2:b<wr.heap.size:=Nat.lt_of_lt_of_le hl KX.out.size
   have h0:(0:Int)≤(k:Int):=by omega
   have h1:(k:Int)<(n2:Int):=by omega
   clear hx hc
   by_cases he:x.n=s
   ·have he2:=str_eq he
    go_wp2_with fail
    go_ret
    exact⟨ret_int (headF_at HX.out he HA.out).symm,KX.out⟩
   ·have he2:=str_ne he
    go_wp2_with fail
    go_roundw
    case rel=>exact⟨k+1,by omega,by go_num,fun t y ht hy=>by
     by_cases e:t=k
     ·subst e;rw [HX.out]at hy;cases hy;exact he
     ·exact HA.out t y (by omega) hy,KB.out⟩
    case measure=>simp [intOf];omega
  ·have h1: ¬(k:Int)<(n2:Int):=by omega
   go_wp2_with fail
   go_ret
   exact⟨ret_int (headF_no fun t y ht hy=>HA.out t y (by have:=E1.out;omega) hy).symm,KX.out⟩
theorem impl_head {v:Value} {d:DG} (s:ByteArray) (w:World) (h:DgRow w v d) (hx:DgOk d):
  Calls Tryz.prog 48 #[v,.string s] w fun e w'=>e= .returned (.int .i64 (headF d.bs s))∧Below w.heap.size w w':=by
 obtain⟨A1,n1,c1,A2,n2,c2,rfl⟩:=h.agg
 obtain⟨r1,e1,r2,e2⟩:=h.open
 have R1:Hid (BrRow w A2 d.bs):=r2
 have E1:Hid (d.bs.length=n2):=e2
 have hn:=r2.1
 rw [e2]at hn
 unfold maxLen at hn
 clear h r1 r2 e1 e2
 go_enter Tryz.func48,Tryz.ntmps48
 go_wp2_with fail
 go_loopw [10] (fun i wr=> ∃k:Nat,k≤n2∧i= .int .i64 k∧(∀(t:Nat) x,t<k→d.bs[t]? =some x→x.n≠s)∧Below w.heap.size w wr) (fun i _=>n2-(intOf i).toNat)
 case atStart=>exact⟨0,Nat.zero_le _,rfl,fun t x ht=>by omega,by go_grown⟩
 case round=>
  obtain⟨k,hk,rfl,hall,hbel⟩:=hrel
  have HA:Hid (∀(t:Nat) x,t<k→d.bs[t]? =some x→x.n≠s):=hall
  have KX:Hid (Below w.heap.size w wr):=hbel
  clear hall hbel
  by_cases hlt:k<n2
  ·obtain⟨x,hx⟩:=at_lt E1.out hlt
   have HX:Hid (d.bs[k]? =some x):=hx
   obtain⟨b,o,rfl,hl,hc⟩:=R1.out.2 k x hx
   have c0:w.cell? ⟨b,o+k*2,none⟩=some (.string x.n):=hc 0 _ rfl
   have c1:w.cell? ⟨b,o+k*2+1,none⟩=some (.int .i64 x.h):=hc 1 _ rfl
   rw [←KX.out.cell (p:=⟨_,_,none⟩) hl]at c0 c1
   have hl2:b<wr.heap.size:=Nat.lt_of_lt_of_le hl KX.out.size
   have h0:(0:Int)≤(k:Int):=by omega
   have h1:(k:Int)<(n2:Int):=by omega
   have KA:Hid (Below w.heap.size w (wr.alloc (.cells #[.string x.n,.int .i64 x.h] 58))):=KX.out.alloc KX.out.size _
   clear hx hc
   by_cases he:x.n=s
   ·have he2:=str_eq he
    go_wp2_with fail
    go_ret
    exact⟨ret_int (headF_at HX.out he HA.out).symm,KX.out.alloc KX.out.size _⟩
   ·have he2:=str_ne he
    go_wp2_with fail
    go_roundw
    case rel=>exact⟨k+1,by omega,by go_num,fun t y ht hy=>by
     by_cases e:t=k
     ·subst e;rw [HX.out]at hy;cases hy;exact he
     ·exact HA.out t y (by omega) hy,KA.out⟩
    case measure=>simp [intOf];omega
  ·have h1: ¬(k:Int)<(n2:Int):=by omega
   go_wp2_with fail
   go_ret
   exact⟨ret_int (headF_no fun t y ht hy=>HA.out t y (by have:=E1.out;omega) hy).symm,KX.out⟩
def headD (d:DG) (s:ByteArray):Int:=if dagB d=true then headF d.bs s else 0
theorem impl_HeadOf {v:Value} {d:DG} (s:ByteArray) (w:World) (h:DgRow w v d) (hk:DgOk d) (hl:DgLil d) (hg:GI w):
  Calls Tryz.prog 20 #[v,.string s] w fun e w'=>e= .returned (.int .i64 (headD d s))∧Below w.heap.size w w':=by
 obtain⟨A1,n1,c1,A2,n2,c2,rfl⟩:=h.agg
 have HR:Hid (DgRow w (.agg #[.int .i64 d.next,.slice A1 n1 c1,.slice A2 n2 c2]) d):=h
 have HK:Hid (DgOk d):=hk
 have HL:Hid (DgLil d):=hl
 have HG:Hid (GI w):=hg
 obtain⟨f,HFF⟩: ∃f:Bool,Hid (f=dagB d):=⟨_,rfl⟩
 clear h hk hl hg
 go_enter Tryz.func20,Tryz.ntmps20
 go_wp2_with fail
 obtain⟨X,HX⟩: ∃X,Hid (w.alloc (.cells #[.int .i64 d.next,.slice A1 n1 c1,.slice A2 n2 c2] 31)=X):=⟨_,rfl⟩
 rw [HX.out]
 have c_0:X.cell? ⟨w.heap.size,0,none⟩=some (.int .i64 d.next):=by rw [←HX.out];go_simp
 have c_1:X.cell? ⟨w.heap.size,1,none⟩=some (.slice A1 n1 c1):=by rw [←HX.out];go_simp
 have c_2:X.cell? ⟨w.heap.size,2,none⟩=some (.slice A2 n2 c2):=by rw [←HX.out];go_simp
 have zX:w.heap.size<X.heap.size:=by rw [←HX.out];simp
 have KX:Hid (Below w.heap.size w X):=by rw [←HX.out];show Below _ _ _;go_grown
 clear HX
 refine(impl_DagOk _ (HR.out.below KX.out) HK.out HL.out (HG.out.below KX.out)).mono ?_
 rintro e u1 ⟨rfl,hb⟩
 rw [←HFF.out]
 replace c_0:=cy hb c_0
 replace c_1:=cy hb c_1
 replace c_2:=cy hb c_2
 replace zX:w.heap.size<u1.heap.size:=Nat.lt_of_lt_of_le zX hb.size
 replace KX:Hid (Below w.heap.size w u1):=bchain KX.out hb
 clear hb
 cases f
 ·go_wp2_with fail
  go_ret
  exact⟨ret_int (by rw [headD,if_neg (by rw [←HFF.out];decide)]),KX.out⟩
 go_wp2_with fail
 refine(impl_head s _ (HR.out.below KX.out) HK.out).mono ?_
 rintro e u2 ⟨rfl,hb⟩
 have K2:Hid (Below w.heap.size w u2):=bchain KX.out hb
 clear hb
 go_wp2_with fail
 go_ret
 exact⟨ret_int (by rw [headD,if_pos HFF.out.symm]),K2.out⟩
theorem spec_HeadOf {v:Value} {d:DG} (s:ByteArray) (w:World) (h:DgRow w v d) (hk:DgOk d):
  Calls Tryz.prog 19 #[v,.string s] w fun e w'=>e= .returned (.int .i64 (headD d s))∧Below w.heap.size w w':=by
 obtain⟨A1,n1,c1,A2,n2,c2,rfl⟩:=h.agg
 have HR:Hid (DgRow w (.agg #[.int .i64 d.next,.slice A1 n1 c1,.slice A2 n2 c2]) d):=h
 have HK:Hid (DgOk d):=hk
 obtain⟨f,HFF⟩: ∃f:Bool,Hid (f=dagB d):=⟨_,rfl⟩
 clear h hk
 go_enter Tryz.func19,Tryz.ntmps19
 go_wp2_with fail
 obtain⟨X,HX⟩: ∃X,Hid (w.alloc (.cells #[.int .i64 d.next,.slice A1 n1 c1,.slice A2 n2 c2] 31)=X):=⟨_,rfl⟩
 rw [HX.out]
 have c_0:X.cell? ⟨w.heap.size,0,none⟩=some (.int .i64 d.next):=by rw [←HX.out];go_simp
 have c_1:X.cell? ⟨w.heap.size,1,none⟩=some (.slice A1 n1 c1):=by rw [←HX.out];go_simp
 have c_2:X.cell? ⟨w.heap.size,2,none⟩=some (.slice A2 n2 c2):=by rw [←HX.out];go_simp
 have zX:w.heap.size<X.heap.size:=by rw [←HX.out];simp
 have KX:Hid (Below w.heap.size w X):=by rw [←HX.out];show Below _ _ _;go_grown
 clear HX
 refine(spec_DagOk _ (HR.out.below KX.out) HK.out).mono ?_
 rintro e u1 ⟨rfl,hb⟩
 rw [←HFF.out]
 replace c_0:=cy hb c_0
 replace c_1:=cy hb c_1
 replace c_2:=cy hb c_2
 replace zX:w.heap.size<u1.heap.size:=Nat.lt_of_lt_of_le zX hb.size
 replace KX:Hid (Below w.heap.size w u1):=bchain KX.out hb
 clear hb
 cases f
 ·go_wp2_with fail
  go_ret
  exact⟨ret_int (by rw [headD,if_neg (by rw [←HFF.out];decide)]),KX.out⟩
 go_wp2_with fail
 refine(spec_l10Head s _ (HR.out.below KX.out) HK.out).mono ?_
 rintro e u2 ⟨rfl,hb⟩
 have K2:Hid (Below w.heap.size w u2):=bchain KX.out hb
 clear hb
 go_wp2_with fail
 go_ret
 exact⟨ret_int (by rw [headD,if_pos HFF.out.symm]),K2.out⟩
end Go.Proofs.YtbmmjfmgpdddeaaGreatDoor
namespace Go.Proofs.YtbmmjfmgpdddeaaGreatDoor
open Go.RowKit
theorem law_FnExactHeadOf (v:Value) (s:ByteArray) (d:DG) (w:World) (hs:s.size≤maxLen) (h:DgRow w v d) (hk:DgOk d) (hg:GI w):Calls Tryz.prog 5 #[v,.string s] w fun e w'=>
  e= .returned (.bool true)∧Below w.heap.size w w':=by
 obtain⟨A,n,c,B,m,q,rfl⟩:=h.agg
 have HR:Hid (DgRow w (.agg #[.int .i64 d.next,.slice A n c,.slice B m q]) d):=h
 have HK:Hid (DgOk d):=hk
 have HG:Hid (GI w):=hg
 unfold maxLen at hs
 obtain⟨f,HFF⟩: ∃f:Int,Hid (f=headD d s):=⟨_,rfl⟩
 have e1:(f==f)=true:=by simp
 clear h hk hg
 by_cases hbig:(1048576:Int)<(s.size:Int)
 ·go_enter Tryz.func5,Tryz.ntmps5
  go_wp2_with fail
  go_ret
  exact⟨rfl,by go_grown⟩
 go_enter Tryz.func5,Tryz.ntmps5
 go_wp2_with fail
 obtain⟨X,HX⟩: ∃X,Hid (w.alloc (.cells #[.int .i64 d.next,.slice A n c,.slice B m q] 25)=X):=⟨_,rfl⟩
 rw [HX.out]
 have c_0:X.cell? ⟨w.heap.size,0,none⟩=some (.int .i64 d.next):=by rw [←HX.out];go_simp
 have c_1:X.cell? ⟨w.heap.size,1,none⟩=some (.slice A n c):=by rw [←HX.out];go_simp
 have c_2:X.cell? ⟨w.heap.size,2,none⟩=some (.slice B m q):=by rw [←HX.out];go_simp
 have zX:w.heap.size<X.heap.size:=by rw [←HX.out];simp
 have KX:Hid (Below w.heap.size w X):=by rw [←HX.out];show Below _ _ _;go_grown
 clear HX
 refine(laws_szDag _ (HR.out.below KX.out) HK.out).mono ?_
 rintro e u1 ⟨z,rfl,hz,hb⟩
 replace c_0:=cy hb c_0
 replace c_1:=cy hb c_1
 replace c_2:=cy hb c_2
 replace zX:w.heap.size<u1.heap.size:=Nat.lt_of_lt_of_le zX hb.size
 replace KX:Hid (Below w.heap.size w u1):=bchain KX.out hb
 clear hb
 by_cases hneg:z<0
 ·go_wp2_with fail
  go_ret
  exact⟨rfl,KX.out⟩
 have HL:Hid (DgLil d):=hz (by omega)
 clear hz
 go_wp2_with fail
 refine(laws_toDag _ (HR.out.below KX.out) HL.out).mono ?_
 rintro e u2 ⟨v2,rfl,ho,hb⟩
 have hr:=ho.row HK.out
 obtain⟨A2,n2,c2,B2,m2,q2,rfl⟩:=hr.agg
 have R1:Hid (DgRow u2 (.agg #[.int .i64 d.next,.slice A2 n2 c2,.slice B2 m2 q2]) d):=hr
 replace c_0:=cy hb c_0
 replace c_1:=cy hb c_1
 replace c_2:=cy hb c_2
 replace zX:w.heap.size<u2.heap.size:=Nat.lt_of_lt_of_le zX hb.size
 replace KX:Hid (Below w.heap.size w u2):=bchain KX.out hb
 clear hb hr ho
 go_wp2_with fail
 refine(spec_HeadOf s _ R1.out HK.out).mono ?_
 rintro e u3 ⟨rfl,hb⟩
 rw [←HFF.out]
 replace c_0:=cy hb c_0
 replace c_1:=cy hb c_1
 replace c_2:=cy hb c_2
 replace zX:w.heap.size<u3.heap.size:=Nat.lt_of_lt_of_le zX hb.size
 replace KX:Hid (Below w.heap.size w u3):=bchain KX.out hb
 clear hb R1
 go_wp2_with fail
 refine(laws_toDag _ (HR.out.below KX.out) HL.out).mono ?_
 rintro e u4 ⟨v4,rfl,ho,hb⟩
 have hr:=ho.row HK.out
 obtain⟨A4,n4,c4,B4,m4,q4,rfl⟩:=hr.agg
 have R2:Hid (DgRow u4 (.agg #[.int .i64 d.next,.slice A4 n4 c4,.slice B4 m4 q4]) d):=hr
 replace c_0:=cy hb c_0
 replace c_1:=cy hb c_1
 replace c_2:=cy hb c_2
 replace zX:w.heap.size<u4.heap.size:=Nat.lt_of_lt_of_le zX hb.size
 replace KX:Hid (Below w.heap.size w u4):=bchain KX.out hb
 clear hb hr ho
 go_wp2_with fail
 obtain⟨Y,HY⟩: ∃X,Hid (u4.alloc (.cells #[.int .i64 d.next,.slice A4 n4 c4,.slice B4 m4 q4] 31)=X):=⟨_,rfl⟩
 rw [HY.out]
 have hb:Below u4.heap.size u4 Y:=by rw [←HY.out];go_grown
 have d_0:Y.cell? ⟨u4.heap.size,0,none⟩=some (.int .i64 d.next):=by rw [←HY.out];go_simp
 have d_1:Y.cell? ⟨u4.heap.size,1,none⟩=some (.slice A4 n4 c4):=by rw [←HY.out];go_simp
 have d_2:Y.cell? ⟨u4.heap.size,2,none⟩=some (.slice B4 m4 q4):=by rw [←HY.out];go_simp
 have zY:u4.heap.size<Y.heap.size:=by rw [←HY.out];simp
 replace c_0:=cy hb c_0
 replace c_1:=cy hb c_1
 replace c_2:=cy hb c_2
 replace zX:w.heap.size<Y.heap.size:=Nat.lt_of_lt_of_le zX hb.size
 replace KX:Hid (Below w.heap.size w Y):=bchain KX.out hb
 replace R2:Hid (DgRow Y (.agg #[.int .i64 d.next,.slice A4 n4 c4,.slice B4 m4 q4]) d):=R2.out.below hb
 clear hb HY
 refine(impl_HeadOf s _ R2.out HK.out HL.out (HG.out.below KX.out)).mono ?_
 rintro e u5 ⟨rfl,hb⟩
 rw [←HFF.out]
 replace c_0:=cy hb c_0
 replace c_1:=cy hb c_1
 replace c_2:=cy hb c_2
 replace d_0:=cy hb d_0
 replace d_1:=cy hb d_1
 replace d_2:=cy hb d_2
 replace zX:w.heap.size<u5.heap.size:=Nat.lt_of_lt_of_le zX hb.size
 replace zY:u4.heap.size<u5.heap.size:=Nat.lt_of_lt_of_le zY hb.size
 replace KX:Hid (Below w.heap.size w u5):=bchain KX.out hb
 replace R2:Hid (DgRow u5 (.agg #[.int .i64 d.next,.slice A4 n4 c4,.slice B4 m4 q4]) d):=R2.out.below hb
 clear hb
 go_wp2_with fail
 go_region_held3 (fun w'=>(∀bq oq,bq<u5.heap.size→w'.cell? ⟨bq,oq,none⟩=u5.cell? ⟨bq,oq,none⟩)∧u5.heap.size≤w'.heap.size∧Below u5.heap.size u5 w')
  (exact sc_of (Nat.le_refl _) (by go_grown))
  (first
  | (go_at_call 10;refine(laws_toDag _ (HR.out.below (bchain KX.out (by go_grown))) HL.out).mono ?_;rintro e y1 ⟨v6,rfl,ho,hb⟩;have R3:Hid (DgRow y1 v6 d):=ho.row HK.out;obtain⟨hk1,hz1⟩:=bframe (B:=u5.heap.size) (X:=u5) (by go_grown) (by go_size) hb;clear hb ho)
  | (go_at_call 12;refine(laws_eqDag _ (R2.out.below hk1) R3.out).mono ?_;rintro e y2 ⟨rfl,hb⟩;obtain⟨hk2,hz2⟩:=bframe (B:=u5.heap.size) (X:=u5) hk1 hz1 hb;clear hb))
 all_goals
  go_wp2_with fail
  go_ret
  exact⟨rfl,bchain KX.out (by go_grown)⟩
end Go.Proofs.YtbmmjfmgpdddeaaGreatDoor
