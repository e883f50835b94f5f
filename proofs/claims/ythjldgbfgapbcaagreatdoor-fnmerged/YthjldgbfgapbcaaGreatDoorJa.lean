import Derived.Test.YthjldgbfgapbcaaGreatDoorMn
import Derived.Test.YthjldgbfgapbcaaGreatDoorGge
import Derived.Test.YthjldgbfgapbcaaGreatDoorGze
import Derived.Test.YthjldgbfgapbcaaGreatDoorGzc
set_option linter.unusedSimpArgs false
set_option linter.unusedVariables false
namespace Go.Proofs.YthjldgbfgapbcaaGreatDoor
open Go.RowKit
theorem Qnf {M:List CL} (h:M.Pairwise (fun a b=>ltC a b=true)) (hr: ∀z∈M,Qi z.c z.r=true):Jd (QA M) (Qz M) M.length=true:=by
 refine List.all_eq_true.2 fun i hi=> ?_;have hi':=List.mem_range.1 hi;unfold Za;have e1:QA M i=M[i].c∧Qz M i=M[i].r:=by unfold QA Qz;rw [List.getElem?_eq_getElem hi'];exact⟨rfl,rfl⟩
 rw [Bool.and_eq_true];refine⟨by rw [e1.1,e1.2];exact hr _ (List.getElem_mem hi'),?_⟩;by_cases h0:i=0
 ·simp [h0]
 ·have e2:QA M (i-1)=(M[i-1]'(by omega)).c∧Qz M (i-1)=(M[i-1]'(by omega)).r:=by unfold QA Qz;rw [List.getElem?_eq_getElem (by omega)];exact⟨rfl,rfl⟩
  rw [Bool.or_eq_true];refine Or.inr ?_;rw [e1.1,e1.2,e2.1,e2.2];exact List.pairwise_iff_getElem.1 h (i-1) i (by omega) hi' (by omega)
theorem Kl {M:List CL} {j:Nat} (hj:j<M.length):QA M j=M[j].c∧Qz M j=M[j].r∧QB M j=M[j].s:=by
 unfold QA Qz QB;rw [List.getElem?_eq_getElem hj];exact⟨rfl,rfl,rfl⟩
theorem Mh {C R:Nat→Int} {S:Nat→ByteArray} {p q:Int}: ∀n:Nat,(∀i,i<n→ ¬(C i=p∧R i=q))→Nz C R S p q n=⟨#[]⟩
 | 0,_=>rfl
 | n+1,h=>by rw [Nz,if_neg (h n (by omega)),Mh n (fun i hi=>h i (by omega))]
theorem Qhr {M:List CL} (h:M.Pairwise (fun a b=>ltC a b=true)) {k:Nat} (hk:k<M.length): ∀m,k<m→m≤M.length→Nz (QA M) (Qz M) (QB M) (QA M k) (Qz M k) m=QB M k:=by
 intro m;induction m with
 | zero=>intro h1;omega
 | succ m ih=>
  intro h1 h2;by_cases e:k=m
  ·subst e;rw [Nz,if_pos ⟨rfl,rfl⟩]
  ·have h3:=List.pairwise_iff_getElem.1 h k m hk (by omega) (by omega);have c1:=Kl hk;have c2:=Kl (show m<M.length by omega);simp only [ltC,QF,decide_eq_true_eq]at h3;rw [Nz,if_neg (by rw [c1.1,c1.2.1,c2.1,c2.2.1];omega)];exact ih (by omega) (by omega)
theorem Qhq {M:List CL} (h:M.Pairwise (fun a b=>ltC a b=true)) {z:CL} (hz:z∈M):Nz (QA M) (Qz M) (QB M) z.c z.r M.length=z.s:=by
 obtain⟨j,hj,rfl⟩:=List.mem_iff_getElem.1 hz;have c1:=Kl hj;have h9:=Qhr h hj M.length hj (Nat.le_refl _);rw [c1.1,c1.2.1,c1.2.2]at h9;exact h9
structure RunOk (L:List CL):Prop where
 up:L.Pairwise (fun a b=>ltC a b=true)
 all: ∀z∈L,Qi z.c z.r=true∧z.s.toList.isEmpty=false∧YQ z.s=true
theorem RunOk.start {L:List CL} (h:Qm (QA L) (Qz L) (QB L) L.length=true):RunOk L:=by
 obtain⟨_,r1,r2⟩:=Qx h;rw [YV]at r2;refine⟨r2,fun z hz=> ?_⟩;obtain⟨j,hj,rfl⟩:=List.mem_iff_getElem.1 hz;unfold Qm at h;simp only [Bool.and_eq_true]at h;have h9:=List.all_eq_true.1 h.2 j (List.mem_range.2 hj)
 have c1:=Kl hj;have h8:=r1 j hj;unfold Yz at h9;rw [c1.2.2,Bool.and_eq_true,Bool.not_eq_true']at h9;rw [c1.1,c1.2.1]at h8;exact⟨h8,h9.1,h9.2⟩
theorem RunOk.ok {M:List CL} (h:RunOk M) (hl:M.length≤120):Qm (QA M) (Qz M) (QB M) M.length=true:=by
 refine Nm hl (Qnf h.up (fun z hz=>(h.all z hz).1)) (List.all_eq_true.2 fun i hi=> ?_);have hi':=List.mem_range.1 hi;have c1:=Kl hi';have h9:=h.all _ (List.getElem_mem hi');unfold Yz;rw [c1.2.2,h9.2.1,h9.2.2];rfl
end Go.Proofs.YthjldgbfgapbcaaGreatDoor
