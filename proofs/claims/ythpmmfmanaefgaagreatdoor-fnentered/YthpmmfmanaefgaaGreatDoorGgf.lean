import Derived.Test.YthpmmfmanaefgaaGreatDoorGzj
import Derived.Test.YthpmmfmanaefgaaGreatDoorGge
set_option linter.unusedSimpArgs false
set_option linter.unusedVariables false
set_option maxHeartbeats 8000000
set_option maxRecDepth 100000
namespace Go.Proofs.YthpmmfmanaefgaaGreatDoor
open Go.RowKit
end Go.Proofs.YthpmmfmanaefgaaGreatDoor
namespace Go.Proofs.YthpmmfmanaefgaaGreatDoor
open Go.RowKit Go.Maps
theorem key_refok {p q:Int} (h:refOkB p q=true): ∃l,keyOf Tryz.prog 26 (.agg #[.int .i64 p,.int .i64 q])=some l:=by
 simp only [refOkB,decide_eq_true_eq]at h
 exact key_ref p q (wf_small (by omega) (by omega)) (wf_small (by omega) (by omega))
theorem clE_apart {C R:Nat→Int} {S:Nat→ByteArray} {n:Nat} (h:(clE C R S n).Pairwise (fun a b=>ltC a b=true)): ∀i j,i<j→j<n→ ¬(C i=C j∧R i=R j):=fun i j hij hj e=>by
 have h9:=List.pairwise_iff_getElem.1 h i j (by rw [clE_len];omega) (by rw [clE_len];exact hj) hij
 simp only [clE,List.getElem_map,List.getElem_range]at h9
 have h8:=of_decide_eq_true h9
 simp only at h8
 omega
theorem impl_Enter {A:Option Addr} {n cap:Nat} {C R:Nat→Int} {S:Nat→ByteArray} {p q:Int} {s:ByteArray} (w:World) (h:ClRow w A n C R S) (hs:s.size≤maxLen) (hg:GI w):
  Calls Tryz.prog 6 #[.slice A n cap,.agg #[.int .i64 p,.int .i64 q],.string s] w fun e w'=>EnR w.heap.size w' (enF C R S n p q s) e∧Below w.heap.size w w':=by
 have HR:Hid (ClRow w A n C R S):=h
 have HS:Hid (s.size≤maxLen):=hs
 have HG:Hid (GI w):=hg
 clear h hg
 obtain⟨ck,HCK⟩: ∃ck,Hid (clOkB C R S n=ck):=⟨_,rfl⟩
 obtain⟨rk,HRK⟩: ∃rk,Hid (refOkB p q=rk):=⟨_,rfl⟩
 obtain⟨io,HIO⟩: ∃io,Hid (inF s=io):=⟨_,rfl⟩
 go_enter Tryz.func6,Tryz.ntmps6
 go_wp2_with fail
 obtain⟨X,HX⟩: ∃X,Hid (w.alloc (.cells #[.int .i64 p,.int .i64 q] 26)=X):=⟨_,rfl⟩
 rw [HX.out]
 have x0:X.cell? ⟨w.heap.size,0,none⟩=some (.int .i64 p):=by rw [←HX.out];go_simp
 have x1:X.cell? ⟨w.heap.size,1,none⟩=some (.int .i64 q):=by rw [←HX.out];go_simp
 have zX:w.heap.size<X.heap.size:=by rw [←HX.out];simp
 have KX:Hid (Below w.heap.size w X):=by rw [←HX.out];show Below _ _ _;go_grown
 clear HX
 refine(impl_InputOf s X HS.out (HG.out.below KX.out)).mono ?_
 rintro e u0 ⟨hop,hb⟩
 replace x0:=cyE hb x0
 replace x1:=cyE hb x1
 replace zX:w.heap.size<u0.heap.size:=Nat.lt_of_lt_of_le zX hb.size
 replace KX:Hid (Below w.heap.size w u0):=bchain KX.out hb
 clear hb
 rw [HIO.out]at hop
 have HOP:Hid (opA io e):=hop
 clear hop
 obtain⟨tx,ok,HE,HTX⟩: ∃(tx:ByteArray) (ok:Bool),Hid (e= .returned (.tuple #[.string tx,.bool ok]))∧Hid (io=if ok=true then some tx else none):=by
  cases io with
  | none=>exact⟨⟨#[]⟩,false,HOP.out,rfl⟩
  | some t=>exact⟨t,true,HOP.out,rfl⟩
 rw [HE.out]
 clear HE HOP
 go_wp2_with fail
 refine(impl_SheetOk _ (HR.out.below KX.out) (HG.out.below KX.out)).mono ?_
 rintro e u1 ⟨rfl,hb⟩
 replace x0:=cyE hb x0
 replace x1:=cyE hb x1
 replace zX:w.heap.size<u1.heap.size:=Nat.lt_of_lt_of_le zX hb.size
 replace KX:Hid (Below w.heap.size w u1):=bchain KX.out hb
 clear hb
 rw [HCK.out]
 cases ck
 ·have HV:Hid (enF C R S n p q s=none):=enF_no1 HCK.out
  go_wp2_with fail
  refine bodyPost_ret (v:= .tuple #[.slice none 0 0,.bool false]) ?_ rfl ⟨?_,KX.out⟩
  ·simp (maxDischargeDepth:=9) [results,Tryz.results6,go_sem, *]
  ·rw [HV.out];exact rfl
 go_wp2_with fail
 refine(impl_RefOk p q _).mono ?_
 rintro e u2 ⟨rfl,hb⟩
 replace x0:=cyE hb x0
 replace x1:=cyE hb x1
 replace zX:w.heap.size<u2.heap.size:=Nat.lt_of_lt_of_le zX hb.size
 replace KX:Hid (Below w.heap.size w u2):=bchain KX.out hb
 clear hb
 rw [HRK.out]
 cases rk
 ·have HV:Hid (enF C R S n p q s=none):=enF_no2 HRK.out
  go_wp2_with fail
  refine bodyPost_ret (v:= .tuple #[.slice none 0 0,.bool false]) ?_ rfl ⟨?_,KX.out⟩
  ·simp (maxDischargeDepth:=9) [results,Tryz.results6,go_sem, *]
  ·rw [HV.out];exact rfl
 cases ok
 ·have HV:Hid (enF C R S n p q s=none):=enF_no3 (HIO.out.trans HTX.out)
  go_wp2_with fail
  refine bodyPost_ret (v:= .tuple #[.slice none 0 0,.bool false]) ?_ rfl ⟨?_,KX.out⟩
  ·simp (maxDischargeDepth:=9) [results,Tryz.results6,go_sem, *]
  ·rw [HV.out];exact rfl
 have HIT:Hid (inF s=some tx):=HIO.out.trans HTX.out
 obtain⟨hn,hrf,hri⟩:=cl_rise HCK.out
 have HRI:Hid ((clE C R S n).Pairwise (fun a b=>ltC a b=true)):=hri
 have HRF:Hid (∀i,i<n→refOkB (C i) (R i)=true):=hrf
 have HV:Hid (enF C R S n p q s=if 120<(setC ⟨p,q,tx⟩ (clE C R S n)).length then none else some (setC ⟨p,q,tx⟩ (clE C R S n))):=enF_yes HCK.out HRK.out HIT.out
 clear hri hrf
 go_wp2_with fail
 obtain⟨kl,hkl⟩:=rise_ok (n:=n) HRF.out
 have HKL:Hid (∀i,i<n→keyOf Tryz.prog 26 (.agg #[.int .i64 (C i),.int .i64 (R i)])=some (kl i)):=hkl
 obtain⟨k0,hk0⟩:=key_refok HRK.out
 have HK0:Hid (keyOf Tryz.prog 26 (.agg #[.int .i64 p,.int .i64 q])=some k0):=hk0
 clear hkl hk0
 refine(impl_cellMapOf _ (HR.out.below KX.out) hn HKL.out).mono ?_
 rintro e u3 ⟨rfl,ho,hb⟩
 have HM:Hid (u3.ownsMap Tryz.prog 26 rawE u2.heap.size n (clD kl C R S n)):=ho
 have HCD:Hid (CmD (clD kl C R S n) (clE C R S n)):=clD_cm n HKL.out (clE_apart HRI.out)
 have ZB:Hid (w.heap.size≤u2.heap.size):=KX.out.size
 clear ho
 replace x0:=cyE hb x0
 replace x1:=cyE hb x1
 replace zX:w.heap.size<u3.heap.size:=Nat.lt_of_lt_of_le zX hb.size
 replace KX:Hid (Below w.heap.size w u3):=bchain KX.out hb
 clear hb
 go_wp2_with fail
 refine(impl_put (B:=w.heap.size) (s:=tx) u3 HM.out ZB.out (by omega) HK0.out).mono ?_
 rintro e u4 ⟨rfl,⟨m4,hm4,ho⟩,hb⟩
 obtain⟨D4,HD4⟩: ∃D4,Hid ((if tx.toList.isEmpty=true then(clD kl C R S n).del k0 else(clD kl C R S n).put k0 (.held (.agg #[.int .i64 p,.int .i64 q,.string tx])))=D4):=⟨_,rfl⟩
 rw [HD4.out]at ho
 obtain⟨E4,HE4⟩: ∃E4:List CL,Hid ((if tx.toList.isEmpty=true then offP p q (clE C R S n)else offP p q (clE C R S n)++ [(⟨p,q,tx⟩:CL)])=E4):=⟨_,rfl⟩
 have HM4:Hid (u4.ownsMap Tryz.prog 26 rawE u2.heap.size m4 D4):=ho
 have HC4:Hid (CmD D4 E4):=by
  show CmD D4 E4
  rw [←HD4.out,←HE4.out]
  by_cases he:tx.toList.isEmpty=true
  ·rw [if_pos he,if_pos he];exact HCD.out.off HK0.out
  ·rw [if_neg he,if_neg he];exact HCD.out.on (clD_isMap kl C R S n) (x:=⟨p,q,tx⟩) HK0.out
 have HP4:Hid ((setC ⟨p,q,tx⟩ (clE C R S n)).Perm E4):=by
  show List.Perm _ _
  rw [←HE4.out]
  exact setC_perm ⟨p,q,tx⟩ _
 obtain⟨mm,HLN⟩: ∃mm,Hid ((setC ⟨p,q,tx⟩ (clE C R S n)).length=mm):=⟨_,rfl⟩
 have HL4:Hid (E4.length=mm):=by show _=_;rw [←HP4.out.length_eq,HLN.out]
 have hsz:Maps.size D4=mm:=by rw [HC4.out.size HM4.out,HL4.out]
 replace KX:Hid (Below w.heap.size w u4):=KX.out.trans hb
 clear ho hb x0 x1 HD4 HE4
 by_cases h120:120<mm
 ·have q1:(120:Int)<((mm:Nat):Int):=by omega
  go_wp2_with (first
   | (at_len;refine wpList_len_own _ rfl _ 47 rfl 26 37 Tryz.underlying47 _ u2.heap.size m4 D4 rfl HM4.out ?_;rw [hsz])
   | fail)
  go_wp2_with fail
  refine bodyPost_ret (v:= .tuple #[.slice none 0 0,.bool false]) ?_ rfl ⟨?_,KX.out⟩
  ·simp (maxDischargeDepth:=9) [results,Tryz.results6,go_sem, *]
  ·rw [HV.out,HLN.out,if_pos h120];exact rfl
 ·have q1: ¬(120:Int)<((mm:Nat):Int):=by omega
  go_wp2_with (first
   | (at_len;refine wpList_len_own _ rfl _ 47 rfl 26 37 Tryz.underlying47 _ u2.heap.size m4 D4 rfl HM4.out ?_;rw [hsz])
   | fail)
  go_wp2_with fail
  refine(impl_inOrder _ HM4.out HC4.out (by rw [HL4.out];omega)).mono ?_
  rintro e u5 ⟨A',c',M,rfl,hp,hpw,ho,hb⟩
  have HMS:Hid (M=setC ⟨p,q,tx⟩ (clE C R S n)):=ltC_one hpw (setC_rise HRI.out) (hp.trans HP4.out.symm)
  rw [HMS.out,HL4.out]at ho
  rw [HL4.out]
  have HO:Hid (u5.ownsRow w.heap.size 37 3 (.slice A' mm c') mm (flat CL.cs (setC ⟨p,q,tx⟩ (clE C R S n)))):=Go.Proofs.ownsRow_base_a ho KX.out.size
  replace KX:Hid (Below w.heap.size w u5):=bchain KX.out hb
  clear ho hb hp hpw
  go_wp2_with fail
  refine bodyPost_ret (v:= .tuple #[.slice A' mm c',.bool true]) ?_ rfl ⟨?_,KX.out⟩
  ·simp (maxDischargeDepth:=9) [results,Tryz.results6,go_sem, *]
  ·rw [HV.out,HLN.out,if_neg h120];exact⟨A',c',mm,rfl,HLN.out,HO.out⟩
def cofC (L:List CL) (i:Nat):Int:=((L[i]?).map CL.c).getD 0
def cofR (L:List CL) (i:Nat):Int:=((L[i]?).map CL.r).getD 0
def cofS (L:List CL) (i:Nat):ByteArray:=((L[i]?).map CL.s).getD ⟨#[]⟩
theorem clE_of (L:List CL):clE (cofC L) (cofR L) (cofS L) L.length=L:=by
 apply List.ext_getElem (clE_len _ _ _ _)
 intro i h1 h2
 simp only [clE,List.getElem_map,List.getElem_range,cofC,cofR,cofS,List.getElem?_eq_getElem h2,Option.map_some,Option.getD_some]
theorem clX_flat (C R:Nat→Int) (S:Nat→ByteArray): ∀n,clX C R S n=flat CL.cs (clE C R S n)
 | 0=>rfl
 | n+1=>by rw [clX_succ,clE_succ,flat_snoc,clX_flat C R S n];rfl
theorem cl_of_list {W:World} {B n cap:Nat} {A:Option Addr} {L:List CL} (h:W.ownsRow B 37 3 (.slice A n cap) n (flat CL.cs L)) (hL:L.length=n) (hs: ∀x∈L,x.s.size≤maxLen):ClRow W A n (cofC L) (cofR L) (cofS L):=by
 subst hL
 refine cl_of_own (B:=B) (cap:=cap) ?_ (fun i hi=> ?_)
 ·rw [clX_flat,clE_of];exact h
 ·simp only [cofS,List.getElem?_eq_getElem hi,Option.map_some,Option.getD_some]
  exact hs _ (List.getElem_mem hi)
theorem en_sz {C R:Nat→Int} {S:Nat→ByteArray} {n:Nat} {p q:Int} {s:ByteArray} (hs: ∀i,i<n→(S i).size≤maxLen): ∀x∈(enF C R S n p q s).getD [],x.s.size≤maxLen:=by
 intro x hx
 rw [enF]at hx
 split at hx
 ·cases hi:inF s with
  | none=>rw [hi]at hx;cases hx
  | some t=>
   rw [hi]at hx
   simp only at hx
   split at hx
   ·cases hx
   ·have h9:=(setC_perm ⟨p,q,t⟩ (clE C R S n)).mem_iff.1 hx
    have hm: ∀y∈clE C R S n,y.s.size≤maxLen:=fun y hy=>by
     obtain⟨i,hi,rfl⟩:=List.mem_map.1 hy
     exact hs i (List.mem_range.1 hi)
    split at h9
    ·exact hm x (offP_mem.1 h9).1
    ·rcases List.mem_append.1 h9 with h9 | h9
     ·exact hm x (offP_mem.1 h9).1
     ·rw [List.mem_singleton]at h9;subst h9
      have:=in_lim hi
      unfold maxLen
      show t.size≤_
      omega
 ·cases hx
theorem en_len {C R:Nat→Int} {S:Nat→ByteArray} {n:Nat} {p q:Int} {s:ByteArray}:((enF C R S n p q s).getD []).length≤120:=by
 rw [enF]
 split
 ·cases hi:inF s with
  | none=>simp
  | some t=>
   simp only
   split
   ·simp
   ·simp only [Option.getD_some];omega
 ·simp
end Go.Proofs.YthpmmfmanaefgaaGreatDoor
