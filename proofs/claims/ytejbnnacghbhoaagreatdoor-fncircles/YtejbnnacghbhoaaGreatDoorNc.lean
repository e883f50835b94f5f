import Derived.Test.YtejbnnacghbhoaaGreatDoorMn
import Derived.Test.YtejbnnacghbhoaaGreatDoorNa
import Derived.Test.YtejbnnacghbhoaaGreatDoorNb
set_option linter.unusedSimpArgs false
set_option linter.unusedVariables false
set_option maxHeartbeats 8000000
set_option maxRecDepth 100000
namespace Go.Proofs.YtejbnnacghbhoaaGreatDoor
open Go.RowKit
theorem ok_wf {C R:Nat→Int} {S:Nat→ByteArray} {n:Nat} {x:PL} (hx:x∈plL C R n) (h:QD C R S n=true):(Lit.int .i64 x.1).wf=true∧(Lit.int .i64 x.2).wf=true:=by
 obtain⟨i,hi,rfl⟩:=List.mem_map.1 hx;have h9:=(Qnv h).2.1 i (List.mem_range.1 hi);simp only [Qg,decide_eq_true_eq]at h9;exact⟨BO (by omega) (by omega),BO (by omega) (by omega)⟩
def gN (C R:Nat→Int) (S:Nat→ByteArray) (n:Nat) (x:PL):List PL:=lnR C R S n x.1 x.2
theorem gN_ok {C R:Nat→Int} {S:Nat→ByteArray} {n:Nat} (h:QD C R S n=true):gN C R S n=gL C R S n:=by funext x;unfold gN lnR;rw [if_pos h];rfl
theorem gN_no {C R:Nat→Int} {S:Nat→ByteArray} {n:Nat} (h:QD C R S n=false) (x:PL):gN C R S n x= []:=by unfold gN lnR;rw [if_neg (by rw [h];simp)]
theorem gN_in {C R:Nat→Int} {S:Nat→ByteArray} {n:Nat} (x:PL): ∀y∈gN C R S n x,y∈plL C R n:=fun y hy=>by
 cases h:QD C R S n
 ·rw [gN_no h]at hy;cases hy
 ·rw [gN_ok h]at hy;exact Qjn hy
theorem gN_left {C R:Nat→Int} {S:Nat→ByteArray} {n:Nat} (x:PL):(gN C R S n x).length+lfP (plL C R n) (gN C R S n x)≤n:=by
 cases h:QD C R S n
 ·rw [gN_no h,List.length_nil,Nat.zero_add];unfold lfP;have:=List.countP_le_length (p:=fun x=> !decide (x∈([]:List PL))) (l:=plL C R n);rwa [Qct]at this
 ·rw [gN_ok h];exact Qhm _ _ _ _
theorem gN_rc {C R:Nat→Int} {S:Nat→ByteArray} {n:Nat} {a:PL} {r:Bool} (hr:r=true↔QD C R S n=true∧Rc (gL C R S n) a a):r=true↔Rc (gN C R S n) a a:=by
 cases h:QD C R S n
 ·rw [h]at hr;constructor
  ·intro h9;exact absurd (hr.1 h9).1 (by simp)
  ·intro h9;exact(h9 (fun _=>False) (fun y hy=>by rw [gN_no h]at hy;cases hy) (fun y hy z hz=>hy)).elim
 ·rw [gN_ok h];rw [h]at hr;exact⟨fun h9=>(hr.1 h9).2,fun h9=>hr.2 ⟨rfl,h9⟩⟩
theorem impl_LeansOn_any {A:Option Addr} {n cap:Nat} {C R:Nat→Int} {S:Nat→ByteArray} (p q:Int) (w:World) (h:ClRow w A n C R S) (hg:GI w) (hw:QD C R S n=true→(Lit.int .i64 p).wf=true∧(Lit.int .i64 q).wf=true):
  Calls Tryz.prog 12 #[.slice A n cap,.agg #[.int .i64 p,.int .i64 q]] w fun e w'=> ∃F z c,e= .returned (.slice F z c)∧(gN C R S n (p,q)).length=z∧w'.ownsRow w.heap.size 26 2 (.slice F z c) z (QC rfL (gN C R S n (p,q)))∧Below w.heap.size w w':=by
 cases hk:QD C R S n
 ·refine(impl_LeansOn_no p q w h hg hk).mono ?_;rintro e w' ⟨rfl,hb⟩;rw [gN_no hk];exact⟨none,0,0,rfl,rfl,World.ownsRow_nil _ _ _ _,hb⟩
 ·exact Qkn p q w h hg (hw hk).1 (hw hk).2
theorem impl_InCircle_any {A:Option Addr} {n cap:Nat} {C R:Nat→Int} {S:Nat→ByteArray} (p q:Int) (r:Bool) (w:World) (h:ClRow w A n C R S) (hg:GI w) (hw:QD C R S n=true→(Lit.int .i64 p).wf=true∧(Lit.int .i64 q).wf=true) (hr:r=true↔QD C R S n=true∧Rc (gL C R S n) (p,q) (p,q)):
  Calls Tryz.prog 9 #[.slice A n cap,.agg #[.int .i64 p,.int .i64 q]] w fun e w'=>e= .returned (.bool r)∧Below w.heap.size w w':=by
 cases hk:QD C R S n
 ·have e:r=false:=by
   cases r with
   | false=>rfl
   | true=>have:=(hr.1 rfl).1;rw [hk]at this;cases this
  rw [e];exact impl_InCircle_no p q w h hg hk
 ·exact Qjv p q r w h hg (hw hk).1 (hw hk).2 hr
theorem law_FnCircles (H1:FtX 1 69) (H2:FtX 2 228) (A:Option Addr) (len cap:Nat) (w:World) (h:len≤1048576→Cd w A len) (hg:GI w):Calls Tryz.prog 3 #[.slice A len cap] w fun e w'=>e= .returned (.bool true)∧Below w.heap.size w w':=by
 have HH:Hid (len≤1048576→Cd w A len):=h;have HG:Hid (GI w):=hg;clear h hg;go_enter Tryz.func3,Tryz.ntmps3;go_wp2_with fail
 refine(laws_bigC A len cap w).mono ?_;rintro e w0 ⟨rfl,rfl⟩;by_cases hbig:(1048576:Int)<(len:Int)
 ·rw [decide_eq_true hbig];go_wp2_with fail
  go_ret;exact⟨rfl,Below.refl _ _⟩
 rw [decide_eq_false hbig];go_wp2_with fail
 refine(draw_inCircle H1 H2 A len cap w0 (HH.out (by omega))).mono ?_;rintro e w1 ⟨L,B,c,p,q,rfl,hcl,h121,hpq,hb⟩;obtain⟨n,HN⟩: ∃n,Hid (L.length=n):=⟨_,rfl⟩;rw [HN.out]at hcl h121 hpq ⊢;obtain⟨C,HC⟩: ∃C,Hid (Qf8 L=C):=⟨_,rfl⟩;obtain⟨R,HRR⟩: ∃R,Hid (Qf7 L=R):=⟨_,rfl⟩;obtain⟨S,HS⟩: ∃S,Hid (Qac L=S):=⟨_,rfl⟩
 rw [HC.out,HRR.out,HS.out]at hcl;rw [HC.out,HRR.out]at hpq
 have HWF:Hid (QD C R S n=true→(Lit.int .i64 p).wf=true∧(Lit.int .i64 q).wf=true):=fun hk=>by
  rcases hpq with h9 | ⟨i,hi,e1,e2⟩
  ·exact⟨BO (by omega) (by omega),BO (by omega) (by omega)⟩
  ·subst e1 e2;exact ok_wf (x:=(C i,R i)) (List.mem_map.2 ⟨i,List.mem_range.2 hi,rfl⟩) hk
 have K1:Hid (Below w0.heap.size w0 w1):=hb;clear hpq hb HC HRR HS
 obtain⟨r,hr⟩: ∃r:Bool,r=true↔QD C R S n=true∧Rc (gL C R S n) (p,q) (p,q):=by
  by_cases h9:QD C R S n=true∧Rc (gL C R S n) (p,q) (p,q)
  ·exact⟨true,⟨fun _=>h9,fun _=>rfl⟩⟩
  ·exact⟨false,⟨fun e=>(nomatch e),fun e=>absurd e h9⟩⟩
 have HRI:Hid (r=true↔QD C R S n=true∧Rc (gL C R S n) (p,q) (p,q)):=hr;have HRG:Hid (r=true↔Rc (gN C R S n) (p,q) (p,q)):=gN_rc hr;clear hr;go_upto_region 4 with fail
 obtain⟨X,HX⟩: ∃X,Hid (w1.alloc (.cells #[.int .i64 p,.int .i64 q] 26)=X):=⟨_,rfl⟩;rw [HX.out];obtain⟨xb,HXB⟩: ∃xb,Hid (w1.heap.size=xb):=⟨_,rfl⟩;have x0:X.cell? ⟨xb,0,none⟩=some (.int .i64 p):=by rw [←HX.out,←HXB.out];simp
 have x1:X.cell? ⟨xb,1,none⟩=some (.int .i64 q):=by rw [←HX.out,←HXB.out];simp
 have xl:xb<X.heap.size:=by rw [←HX.out,←HXB.out];simp
 have KX:Hid (Below w0.heap.size w0 X):=Qc K1.out (by rw [←HX.out];exact(Below.refl _ _).alloc (Nat.le_refl _) _);have HCL:Hid (ClRow X B n C R S):=hcl.below (by rw [←HX.out];exact(Below.refl _ _).alloc (Nat.le_refl _) _);rw [HXB.out];clear hcl HX HXB K1;go_wp2_with fail
 refine(impl_InCircle_any p q r X HCL.out (HG.out.below KX.out) HWF.out HRI.out).mono ?_;rintro e w2 ⟨rfl,hb2⟩;have K2:Hid (Below X.heap.size X w2):=hb2;clear hb2;have y0:=(K2.out.cell (p:=⟨xb,0,none⟩) xl).trans x0;have y1:=(K2.out.cell (p:=⟨xb,1,none⟩) xl).trans x1;have xl2:=Nat.lt_of_lt_of_le xl K2.out.size
 go_upto_region 5 with fail
 have K2d:Hid (Below X.heap.size X w2.drew):=K2.out.drew;go_cut [34]from 20 to 34 (fun v wx=>v= .bool false∧Below X.heap.size X wx)
 case first=>
  refine wp_region_held_drew (S:=fun w'=>w'.cell? ⟨xb,0,none⟩=some (.int .i64 p)∧w'.cell? ⟨xb,1,none⟩=some (.int .i64 q)) (by kernel_rfl) ⟨y0,y1⟩ (fun hHeld=> ?_);refine tjA 0 ?_ rfl (by kernel_rfl) (by rfl) ?_ ?_;rotate_left
  ·(intro wq hSw;obtain⟨hq0,hq1⟩:=hSw;go_simp<;>with_reducible rfl)
  try simp only [Act.put,List.getElem_toArray,List.getElem_cons_zero,List.getElem_cons_succ,List.setIfInBounds_toArray,List.set_cons_zero,List.set_cons_succ]
  refine tjA 1 ?_ rfl (by kernel_rfl) (by rfl) ?_ ?_;rotate_left
  ·(intro wq hSw;obtain⟨hq0,hq1⟩:=hSw;go_simp<;>with_reducible rfl)
  try simp only [Act.put,List.getElem_toArray,List.getElem_cons_zero,List.getElem_cons_succ,List.setIfInBounds_toArray,List.set_cons_zero,List.set_cons_succ]
  refine tjA 2 ?_ rfl (by kernel_rfl) (by rfl) ?_ ?_;rotate_left
  ·(intro wq hSw;obtain⟨hq0,hq1⟩:=hSw;go_simp<;>with_reducible rfl)
  try simp only [Act.put,List.getElem_toArray,List.getElem_cons_zero,List.getElem_cons_succ,List.setIfInBounds_toArray,List.set_cons_zero,List.set_cons_succ]
  refine rqA 3 (fun Kq hKq=> ?_);go_simp;refine(Qi5 p q r w2.drew (HCL.out.below K2d.out) HRI.out).mono ?_;rintro e u3 ⟨rfl,hb⟩;have K3:=hd (Qc K2d.out hb);clear hb;refine hKq.out _ _ ?_ (fun hHeld=> ?_)
  ·exact⟨(K3.out.cell (p:=⟨xb,0,none⟩) xl).trans x0,(K3.out.cell (p:=⟨xb,1,none⟩) xl).trans x1⟩
  clear hKq Kq;try simp only [Act.put,List.getElem_toArray,List.getElem_cons_zero,List.getElem_cons_succ,List.setIfInBounds_toArray,List.set_cons_zero,List.set_cons_succ]
  cases r
  ·skip
   refine tjA 4 ?_ rfl (by kernel_rfl) (by rfl) ?_ ?_;rotate_left
   ·(intro wq hSw;obtain⟨hq0,hq1⟩:=hSw;go_simp<;>with_reducible rfl)
   try simp only [Act.put,List.getElem_toArray,List.getElem_cons_zero,List.getElem_cons_succ,List.setIfInBounds_toArray,List.set_cons_zero,List.set_cons_succ]
   refine tjA 5 ?_ rfl (by kernel_rfl) (by rfl) ?_ ?_;rotate_left
   ·(intro wq hSw;obtain⟨hq0,hq1⟩:=hSw;go_simp<;>with_reducible rfl)
   try simp only [Act.put,List.getElem_toArray,List.getElem_cons_zero,List.getElem_cons_succ,List.setIfInBounds_toArray,List.set_cons_zero,List.set_cons_succ]
   refine tjA 6 ?_ rfl (by kernel_rfl) (by rfl) ?_ ?_;rotate_left
   ·(intro wq hSw;obtain⟨hq0,hq1⟩:=hSw;go_simp<;>with_reducible rfl)
   try simp only [Act.put,List.getElem_toArray,List.getElem_cons_zero,List.getElem_cons_succ,List.setIfInBounds_toArray,List.set_cons_zero,List.set_cons_succ]
   refine tjA 7 ?_ rfl (by kernel_rfl) (by rfl) ?_ ?_;rotate_left
   ·(intro wq hSw;obtain⟨hq0,hq1⟩:=hSw;go_simp<;>with_reducible rfl)
   try simp only [Act.put,List.getElem_toArray,List.getElem_cons_zero,List.getElem_cons_succ,List.setIfInBounds_toArray,List.set_cons_zero,List.set_cons_succ]
   refine tjA 9 ?_ rfl (by kernel_rfl) (by rfl) ?_ ?_;rotate_left
   ·(intro wq hSw;obtain⟨hq0,hq1⟩:=hSw;go_simp<;>with_reducible rfl)
   try simp only [Act.put,List.getElem_toArray,List.getElem_cons_zero,List.getElem_cons_succ,List.setIfInBounds_toArray,List.set_cons_zero,List.set_cons_succ]
   refine tjA 10 ?_ rfl (by kernel_rfl) (by rfl) ?_ ?_;rotate_left
   ·(intro wq hSw;obtain⟨hq0,hq1⟩:=hSw;go_simp<;>with_reducible rfl)
   try simp only [Act.put,List.getElem_toArray,List.getElem_cons_zero,List.getElem_cons_succ,List.setIfInBounds_toArray,List.set_cons_zero,List.set_cons_succ]
   refine rqA 8 (fun Kq hKq=> ?_);go_simp;refine(impl_LeansOn_any p q u3 (HCL.out.below K3.out) (HG.out.below (Qc KX.out K3.out)) HWF.out).mono ?_;rintro e u4 ⟨F4,z4,c4,rfl,hz4,ho4,hb⟩;have K4:=hd (Qc K3.out hb);have HZ4:Hid ((gN C R S n (p,q)).length=z4):=hz4;have O4:Hid (u4.ownsRow u3.heap.size 26 2 (.slice F4 z4 c4) z4 (QC rfL (gN C R S n (p,q)))):=ho4
   clear hb hz4 ho4;refine hKq.out _ _ ?_ (fun hHeld=> ?_)
   ·exact⟨(K4.out.cell (p:=⟨xb,0,none⟩) xl).trans x0,(K4.out.cell (p:=⟨xb,1,none⟩) xl).trans x1⟩
   clear hKq Kq;try simp only [Act.put,List.getElem_toArray,List.getElem_cons_zero,List.getElem_cons_succ,List.setIfInBounds_toArray,List.set_cons_zero,List.set_cons_succ]
   refine rqA 11 (fun Kq hKq=> ?_);go_simp;refine(Qkl p q u4 (HCL.out.below K4.out)).mono ?_;rintro e u5 ⟨F5,z5,c5,rfl,hz5,ho5,hb⟩;have K5:=hd (Qc K4.out hb);obtain rfl:z5=z4:=by have h9:(lnR C R S n p q).length=z4:=HZ4.out;omega
   have O5:Hid (u5.ownsRow u4.heap.size 26 2 (.slice F5 z5 c5) z5 (QC rfL (gN C R S n (p,q)))):=ho5;have P5:=hd (Qi O4.out hb);clear hb hz5 ho5 O4;refine hKq.out _ _ ?_ (fun hHeld=> ?_)
   ·exact⟨(K5.out.cell (p:=⟨xb,0,none⟩) xl).trans x0,(K5.out.cell (p:=⟨xb,1,none⟩) xl).trans x1⟩
   clear hKq Kq;try simp only [Act.put,List.getElem_toArray,List.getElem_cons_zero,List.getElem_cons_succ,List.setIfInBounds_toArray,List.set_cons_zero,List.set_cons_succ]
   refine rqA 12 (fun Kq hKq=> ?_);go_simp;refine(laws_sameRefsC u5 P5.out O5.out (fun j hj=>flat_ints _ j (by rw [HZ4.out];exact hj))).mono ?_;rintro e u6 ⟨rfl,hb⟩;have K6:=hd (Qc K5.out hb);clear hb;refine hKq.out _ _ ?_ (fun hHeld=> ?_)
   ·exact⟨(K6.out.cell (p:=⟨xb,0,none⟩) xl).trans x0,(K6.out.cell (p:=⟨xb,1,none⟩) xl).trans x1⟩
   clear hKq Kq;try simp only [Act.put,List.getElem_toArray,List.getElem_cons_zero,List.getElem_cons_succ,List.setIfInBounds_toArray,List.set_cons_zero,List.set_cons_succ]
   refine tjA 13 ?_ rfl (by kernel_rfl) (by rfl) ?_ ?_;rotate_left
   ·(intro wq hSw;obtain⟨hq0,hq1⟩:=hSw;go_simp<;>with_reducible rfl)
   try simp only [Act.put,List.getElem_toArray,List.getElem_cons_zero,List.getElem_cons_succ,List.setIfInBounds_toArray,List.set_cons_zero,List.set_cons_succ]
   refine tjA 14 ?_ rfl (by kernel_rfl) (by rfl) ?_ ?_;rotate_left
   ·(intro wq hSw;obtain⟨hq0,hq1⟩:=hSw;go_simp<;>with_reducible rfl)
   try simp only [Act.put,List.getElem_toArray,List.getElem_cons_zero,List.getElem_cons_succ,List.setIfInBounds_toArray,List.set_cons_zero,List.set_cons_succ]
   refine wpAnyH_done (by kernel_rfl) ?_ _;go_wp2_with fail
   go_meet;exact⟨rfl,K6.out⟩
  ·skip
   refine tjA 4 ?_ rfl (by kernel_rfl) (by rfl) ?_ ?_;rotate_left
   ·(intro wq hSw;obtain⟨hq0,hq1⟩:=hSw;go_simp<;>with_reducible rfl)
   try simp only [Act.put,List.getElem_toArray,List.getElem_cons_zero,List.getElem_cons_succ,List.setIfInBounds_toArray,List.set_cons_zero,List.set_cons_succ]
   refine tjA 5 ?_ rfl (by kernel_rfl) (by rfl) ?_ ?_;rotate_left
   ·(intro wq hSw;obtain⟨hq0,hq1⟩:=hSw;go_simp<;>with_reducible rfl)
   try simp only [Act.put,List.getElem_toArray,List.getElem_cons_zero,List.getElem_cons_succ,List.setIfInBounds_toArray,List.set_cons_zero,List.set_cons_succ]
   refine tjA 6 ?_ rfl (by kernel_rfl) (by rfl) ?_ ?_;rotate_left
   ·(intro wq hSw;obtain⟨hq0,hq1⟩:=hSw;go_simp<;>with_reducible rfl)
   try simp only [Act.put,List.getElem_toArray,List.getElem_cons_zero,List.getElem_cons_succ,List.setIfInBounds_toArray,List.set_cons_zero,List.set_cons_succ]
   refine tjA 7 ?_ rfl (by kernel_rfl) (by rfl) ?_ ?_;rotate_left
   ·(intro wq hSw;obtain⟨hq0,hq1⟩:=hSw;go_simp<;>with_reducible rfl)
   try simp only [Act.put,List.getElem_toArray,List.getElem_cons_zero,List.getElem_cons_succ,List.setIfInBounds_toArray,List.set_cons_zero,List.set_cons_succ]
   refine tjA 9 ?_ rfl (by kernel_rfl) (by rfl) ?_ ?_;rotate_left
   ·(intro wq hSw;obtain⟨hq0,hq1⟩:=hSw;go_simp<;>with_reducible rfl)
   try simp only [Act.put,List.getElem_toArray,List.getElem_cons_zero,List.getElem_cons_succ,List.setIfInBounds_toArray,List.set_cons_zero,List.set_cons_succ]
   refine tjA 10 ?_ rfl (by kernel_rfl) (by rfl) ?_ ?_;rotate_left
   ·(intro wq hSw;obtain⟨hq0,hq1⟩:=hSw;go_simp<;>with_reducible rfl)
   try simp only [Act.put,List.getElem_toArray,List.getElem_cons_zero,List.getElem_cons_succ,List.setIfInBounds_toArray,List.set_cons_zero,List.set_cons_succ]
   refine rqA 8 (fun Kq hKq=> ?_);go_simp;refine(impl_LeansOn_any p q u3 (HCL.out.below K3.out) (HG.out.below (Qc KX.out K3.out)) HWF.out).mono ?_;rintro e u4 ⟨F4,z4,c4,rfl,hz4,ho4,hb⟩;have K4:=hd (Qc K3.out hb);have HZ4:Hid ((gN C R S n (p,q)).length=z4):=hz4;have O4:Hid (u4.ownsRow u3.heap.size 26 2 (.slice F4 z4 c4) z4 (QC rfL (gN C R S n (p,q)))):=ho4
   clear hb hz4 ho4;refine hKq.out _ _ ?_ (fun hHeld=> ?_)
   ·exact⟨(K4.out.cell (p:=⟨xb,0,none⟩) xl).trans x0,(K4.out.cell (p:=⟨xb,1,none⟩) xl).trans x1⟩
   clear hKq Kq;try simp only [Act.put,List.getElem_toArray,List.getElem_cons_zero,List.getElem_cons_succ,List.setIfInBounds_toArray,List.set_cons_zero,List.set_cons_succ]
   refine rqA 11 (fun Kq hKq=> ?_);go_simp;refine(Qkl p q u4 (HCL.out.below K4.out)).mono ?_;rintro e u5 ⟨F5,z5,c5,rfl,hz5,ho5,hb⟩;have K5:=hd (Qc K4.out hb);obtain rfl:z5=z4:=by have h9:(lnR C R S n p q).length=z4:=HZ4.out;omega
   have O5:Hid (u5.ownsRow u4.heap.size 26 2 (.slice F5 z5 c5) z5 (QC rfL (gN C R S n (p,q)))):=ho5;have P5:=hd (Qi O4.out hb);clear hb hz5 ho5 O4;refine hKq.out _ _ ?_ (fun hHeld=> ?_)
   ·exact⟨(K5.out.cell (p:=⟨xb,0,none⟩) xl).trans x0,(K5.out.cell (p:=⟨xb,1,none⟩) xl).trans x1⟩
   clear hKq Kq;try simp only [Act.put,List.getElem_toArray,List.getElem_cons_zero,List.getElem_cons_succ,List.setIfInBounds_toArray,List.set_cons_zero,List.set_cons_succ]
   refine rqA 12 (fun Kq hKq=> ?_);go_simp;refine(laws_sameRefsC u5 P5.out O5.out (fun j hj=>flat_ints _ j (by rw [HZ4.out];exact hj))).mono ?_;rintro e u6 ⟨rfl,hb⟩;have K6:=hd (Qc K5.out hb);clear hb;refine hKq.out _ _ ?_ (fun hHeld=> ?_)
   ·exact⟨(K6.out.cell (p:=⟨xb,0,none⟩) xl).trans x0,(K6.out.cell (p:=⟨xb,1,none⟩) xl).trans x1⟩
   clear hKq Kq;try simp only [Act.put,List.getElem_toArray,List.getElem_cons_zero,List.getElem_cons_succ,List.setIfInBounds_toArray,List.set_cons_zero,List.set_cons_succ]
   refine tjA 13 ?_ rfl (by kernel_rfl) (by rfl) ?_ ?_;rotate_left
   ·(intro wq hSw;obtain⟨hq0,hq1⟩:=hSw;go_simp<;>with_reducible rfl)
   try simp only [Act.put,List.getElem_toArray,List.getElem_cons_zero,List.getElem_cons_succ,List.setIfInBounds_toArray,List.set_cons_zero,List.set_cons_succ]
   refine tjA 14 ?_ rfl (by kernel_rfl) (by rfl) ?_ ?_;rotate_left
   ·(intro wq hSw;obtain⟨hq0,hq1⟩:=hSw;go_simp<;>with_reducible rfl)
   try simp only [Act.put,List.getElem_toArray,List.getElem_cons_zero,List.getElem_cons_succ,List.setIfInBounds_toArray,List.set_cons_zero,List.set_cons_succ]
   refine wpAnyH_done (by kernel_rfl) ?_ _;go_wp2_with fail
   go_meet;exact⟨rfl,K6.out⟩
 case rest=>
  obtain⟨rfl,hbx⟩:=hcut;have HCX:=hd (HCL.out.below hbx);have KC:=hd (Qc KX.out hbx);replace x0:=(hbx.cell (p:=⟨xb,0,none⟩) xl).trans x0;replace x1:=(hbx.cell (p:=⟨xb,1,none⟩) xl).trans x1;replace xl:=Nat.lt_of_lt_of_le xl hbx.size;clear hbx y0 y1 xl2 K2 K2d HCL KX
  obtain⟨G,HGN⟩: ∃G,Hid (gN C R S n=G):=⟨_,rfl⟩;have HGU:Hid (∀x,∀y∈G x,y∈plL C R n):=fun x y hy=>by rw [←HGN.out]at hy;exact gN_in x y hy
  have HGL:Hid (∀x,(G x).length+lfP (plL C R n) (G x)≤n):=fun x=>by rw [←HGN.out];exact gN_left x
  have HRC:Hid (r=true↔Rc G (p,q) (p,q)):=by rw [←HGN.out];exact HRG.out
  have HLA:Hid (∀(a1 a2:Int) (w9:World) (cp:Nat),ClRow w9 B n C R S→GI w9→(QD C R S n=true→(Lit.int .i64 a1).wf=true∧(Lit.int .i64 a2).wf=true)→Calls Tryz.prog 12 #[.slice B n cp,.agg #[.int .i64 a1,.int .i64 a2]] w9 fun e w'=> ∃F z c,e= .returned (.slice F z c)∧(G (a1,a2)).length=z∧w'.ownsRow w9.heap.size 26 2 (.slice F z c) z (QC rfL (G (a1,a2)))∧Below w9.heap.size w9 w'):=fun a1 a2 w9 cp h1 h2 h3=>by rw [←HGN.out];exact impl_LeansOn_any a1 a2 w9 h1 h2 h3
  clear HGN HRI HRG;obtain⟨Y,HY⟩: ∃Y,Y=wc:=⟨_,rfl⟩;subst HY;go_wp2_with fail
  refine(HLA.out p q Y c HCX.out (HG.out.below KC.out) HWF.out).mono ?_;rintro e v1 ⟨F0,z0,c0',rfl,hz,ho,hb⟩;have O1:Hid (v1.ownsRow Y.heap.size 26 2 (.slice F0 z0 c0') z0 (QC rfL (G (p,q)))):=ho;have HZ1:Hid ((G (p,q)).length=z0):=hz;have B1:Hid (Below Y.heap.size Y v1):=hb;clear ho hz hb;go_wp2_with fail
  go_loopw [6,7] (fun v i wr=> ∃(T:List PL) (F:Option Addr) (z c k:Nat),v= .slice F z c∧T.length=z∧i= .int .i64 k∧k≤z∧wr.ownsRow Y.heap.size 26 2 (.slice F z c) z (QC rfL T)∧Wd G (plL C R n) n (p,q) T k∧Below Y.heap.size Y wr) (fun _ i _=>n-(intOf i).toNat)
  case atStart=>exact⟨_,F0,z0,c0',0,rfl,HZ1.out,rfl,Nat.zero_le _,O1.out,Wd.start (HGU.out _) (HGL.out _),B1.out⟩
  case round=>
   obtain⟨T,F,z,ct,i,rfl,hz,rfl,hi,hown,hwc,hbel⟩:=hrel;have OT:Hid (wr.ownsRow Y.heap.size 26 2 (.slice F z ct) z (QC rfL T)):=hown;have HZ:Hid (T.length=z):=hz;have HW:Hid (Wd G (plL C R n) n (p,q) T i):=hwc;have BL:Hid (Below Y.heap.size Y wr):=hbel;have hzn:z≤n:=by have:=hwc.len;omega
   clear hown hwc hbel hz;by_cases hlt:i<z
   ·have RT:Hid (RfR wr F z T):=RfR.of_own OT.out HZ.out;obtain⟨b,o,rfl,hl,d0,d1⟩:=RT.out.at_ i hlt;have h0:(0:Int)≤(i:Int):=by omega
    have h1:(i:Int)<(z:Int):=by omega
    have HXM:Hid (T.getD i (0,0)∈T):=Vm (by rw [HZ.out];exact hlt);have HXA:Hid (T[i]? =some (T.getD i (0,0))):=EP (by rw [HZ.out];exact hlt);obtain⟨x,HX⟩: ∃x,Hid (T.getD i (0,0)=x):=⟨_,rfl⟩;rw [HX.out]at d0 d1 HXM HXA;obtain⟨a1,a2⟩:=x;simp only at d0 d1;go_wp2_with fail
    refine(HLA.out a1 a2 wr c (HCX.out.below BL.out) (HG.out.below (Qc KC.out BL.out)) (ok_wf (x:=(a1,a2)) (HW.out.all _ HXM.out).2)).mono ?_;rintro e u ⟨F2,z2,c2,rfl,hz2,ho,hb⟩;have RM:Hid (RfR u F2 z2 (G (a1,a2))):=RfR.of_own ho hz2;have HLM:Hid ((G (a1,a2)).length=z2):=hz2;have hz2n:z2≤121:=by have h8:=HGL.out (a1,a2);have h9:=HLM.out;omega
    have HAP:Hid (∀b' o',F2=some ⟨b',o',none⟩→(Value.slice (some ⟨b,o,none⟩) z ct).ownBlock≠some b'):=fun b' o' e1 e2=>by
     subst e1;have h8:=(ho.lt b' rfl).1;have h9:=(OT.out.lt b' e2).2;omega
    have OU:=hd (Qi OT.out hb);have BU:=hd (Qc BL.out hb);clear ho hz2 hb OT BL d0 d1 hl RT;go_wp2_with fail
    go_loopw [6,9] (fun v k wi=> ∃(T:List PL) (F:Option Addr) (z c j:Nat),v= .slice F z c∧T.length=z∧k= .int .i64 j∧j≤z2∧wi.ownsRow Y.heap.size 26 2 (.slice F z c) z (QC rfL T)∧Wd G (plL C R n) n (p,q) T i∧T[i]? =some (a1,a2)∧
     (∀m,m<j→(G (a1,a2)).getD m (0,0)∈T)∧RfR wi F2 z2 (G (a1,a2))∧(∀b' o',F2=some ⟨b',o',none⟩→(Value.slice F z c).ownBlock≠some b')∧Below Y.heap.size Y wi) (fun _ k _=>z2-(intOf k).toNat)
    case atStart=>exact⟨T,_,z,ct,0,rfl,HZ.out,rfl,Nat.zero_le _,OU.out,HW.out,HXA.out,fun m hm=>absurd hm (Nat.not_lt_zero _),RM.out,HAP.out,BU.out⟩
    case round=>
     clear OU RM HAP BU HW HXA HXM HX HZ hzn;obtain⟨T,F,z,c,j,rfl,hz,rfl,hj,hown,hwc,hxa,hpre,hrm,hap,hbel⟩:=hrel;have OT:Hid (wr.ownsRow Y.heap.size 26 2 (.slice F z c) z (QC rfL T)):=hown;have HZ:Hid (T.length=z):=hz;have HW:Hid (Wd G (plL C R n) n (p,q) T i):=hwc;have HXA:Hid (T[i]? =some (a1,a2)):=hxa;have HPRE:Hid (∀m,m<j→(G (a1,a2)).getD m (0,0)∈T):=hpre
     have RM:Hid (RfR wr F2 z2 (G (a1,a2))):=hrm;have HAP:Hid (∀b' o',F2=some ⟨b',o',none⟩→(Value.slice F z c).ownBlock≠some b'):=hap;have BL:Hid (Below Y.heap.size Y wr):=hbel;have hzn:z≤n:=by have:=hwc.len;omega
     have HIZ:Hid (i<z):=by obtain⟨h8,_⟩:=List.getElem?_eq_some_iff.1 hxa;show i<z;omega
     have HXM:Hid ((a1,a2)∈T):=List.mem_of_getElem? hxa;clear hown hz hwc hxa hpre hap hbel;by_cases hlj:j<z2
     ·obtain⟨b2,o2,rfl,hl2,m0,m1⟩:=hrm.at_ j hlj;have j0:(0:Int)≤(j:Int):=by omega
      have j1:(j:Int)<(z2:Int):=by omega
      have HYM:Hid ((G (a1,a2)).getD j (0,0)∈G (a1,a2)):=Vm (by rw [HLM.out];exact hlj);obtain⟨y,HY⟩: ∃y,Hid ((G (a1,a2)).getD j (0,0)=y):=⟨_,rfl⟩;rw [HY.out]at m0 m1 HYM;obtain⟨y1,y2⟩:=y;simp only at m0 m1;clear hrm;go_wp2_with fail
      refine(laws_hasRef y1 y2 _ (RfR.of_own OT.out HZ.out)).mono ?_;rintro e v1 ⟨rfl,hb⟩;have OV:=hd (Qi OT.out hb);have RV:=hd (RM.out.below hb);have BV:=hd (Qc BL.out hb);replace m0:=(hb.cell (p:=⟨b2,_,none⟩) hl2).trans m0;replace m1:=(hb.cell (p:=⟨b2,_,none⟩) hl2).trans m1
      replace hl2:=Nat.lt_of_lt_of_le hl2 hb.size;have hvs:=BV.out.size;clear hb OT RM BL;by_cases hin:(y1,y2)∈T
      ·have HPR:Hid (∀m,m<j+1→(G (a1,a2)).getD m (0,0)∈T):=fun m hm=>by
        by_cases e:m=j
        ·subst e;rw [HY.out];exact hin
        ·exact HPRE.out m (by omega)
       rw [decide_eq_true hin];clear hin HPRE;go_wp2_with fail
       go_roundw
       case rel=>exact⟨T,F,z,c,j+1,rfl,HZ.out,by go_num,by omega,OV.out,HW.out,HXA.out,HPR.out,RV.out,HAP.out,BV.out⟩
       case measure=>simp [intOf];omega
      ·have HW2:Hid (Wd G (plL C R n) n (p,q) (T++ [(y1,y2)]) i):=HW.out.add HXM.out HYM.out (HGU.out _ _ HYM.out) hin (by have:=HIZ.out;have:=HZ.out;omega);have HXA2:Hid ((T++ [(y1,y2)])[i]? =some (a1,a2)):=by show _=_;rw [List.getElem?_append_left (by have:=HIZ.out;have:=HZ.out;omega)];exact HXA.out
       have HPR:Hid (∀m,m<j+1→(G (a1,a2)).getD m (0,0)∈T++ [(y1,y2)]):=fun m hm=>by
        by_cases e:m=j
        ·subst e;rw [HY.out];exact List.mem_append_right _ (List.mem_singleton.2 rfl)
        ·exact List.mem_append_left _ (HPRE.out m (by omega))
       rw [decide_eq_false hin];clear hin HPRE HW HXA
       go_wp2_with (first
        | (at_builtin;refine GV rfl _ _ rfl Y.heap.size (.slice F z c) z T rfl (OV.out.alloc _) (y1,y2) v1.heap.size rfl (by simp [go_sem]) (by simp [go_sem]) (by omega) (by simp;omega) ?_)
        | fail)
       intro g' cap' w9 ho9 hg9 hl9;have B9:Hid (Below Y.heap.size Y w9):=(BV.out.alloc hvs _).grown hg9 (by simp;omega) (fun j hj=>(OV.out.lt j hj).1);have O9:Hid (w9.ownsRow Y.heap.size 26 2 (.slice (some ⟨g',0,none⟩) (z+1) cap') (z+1) (QC rfL (T++ [(y1,y2)]))):=ho9;have R9:Hid (RfR w9 (some ⟨b2,o2,none⟩) z2 (G (a1,a2))):=(RV.out.below ((Below.refl _ _).alloc (Nat.le_refl _) _)).kept hg9 (fun b' o' e e2=>HAP.out b' o' e e2.symm)
       have HAP9:Hid (∀b' o',(some ⟨b2,o2,none⟩:Option Addr)=some ⟨b',o',none⟩→(Value.slice (some ⟨g',0,none⟩) (z+1) cap').ownBlock≠some b'):=fun b' o' e e2=>by
        have e3:g'=b':=Option.some.inj e2;rcases hl9 with h8 | h8
        ·exact HAP.out b' o' e (by rw [h8,e3])
        ·have e4:b2=b':=congrArg Addr.block (Option.some.inj e)
         (try rw [World.size_alloc]at h8)
         omega
       clear ho9 hg9 hl9 OV RV HAP m0 m1;go_wp2_with fail
       go_roundw
       case rel=>exact⟨_,_,z+1,cap',j+1,rfl,by rw [List.length_append,HZ.out];rfl,by go_num,by omega,O9.out,HW2.out,HXA2.out,HPR.out,R9.out,HAP9.out,B9.out⟩
       case measure=>simp [intOf];omega
     ·have j1: ¬(j:Int)<(z2:Int):=by omega
      obtain rfl:j=z2:=by omega
      have HWN:Hid (Wd G (plL C R n) n (p,q) T (i+1)):=HW.out.next HXA.out (fun y hy=>by
       obtain⟨m,hm,e⟩:=List.mem_iff_getElem.1 hy;have h9:=HPRE.out m (by have:=HLM.out;omega);rw [List.getD_eq_getElem?_getD,List.getElem?_eq_getElem hm]at h9;rw [←e]
       exact h9)
      have hiz:=HIZ.out;clear hrm;go_wp2_with fail
      go_roundw
      case rel=>exact⟨T,F,z,c,i+1,rfl,HZ.out,by go_num,by omega,OT.out,HWN.out,BL.out⟩
      case measure=>simp [intOf];omega
   ·have h1: ¬(i:Int)<(z:Int):=by omega
    have HEQ:Hid (decide ((p,q)∈T)=r):=by
     have h9:=(HW.out.iff (by have:=HZ.out;omega)).trans HRC.out.symm;show _=_;cases hr:r with
     | false=>exact decide_eq_false (fun hm=>by have:=h9.1 hm;rw [hr]at this;cases this)
     | true=>exact decide_eq_true (h9.2 hr)
    replace x0:=(BL.out.cell (p:=⟨xb,0,none⟩) xl).trans x0;replace x1:=(BL.out.cell (p:=⟨xb,1,none⟩) xl).trans x1;have xlw:=Nat.lt_of_lt_of_le xl BL.out.size;go_wp2_with fail
    refine(laws_hasRef p q wr (RfR.of_own OT.out HZ.out)).mono ?_;rintro e v9 ⟨rfl,hb9⟩;rw [HEQ.out];have K9:=hd (Qc (Qc KC.out BL.out) hb9);clear hb9;cases r
    all_goals
     go_wp2_with fail
     go_ret;exact⟨rfl,K9.out⟩
end Go.Proofs.YtejbnnacghbhoaaGreatDoor
