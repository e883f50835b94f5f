import Derived.Test.YthjldgbfgapbcaaGreatDoorGhe
import Derived.Test.YthjldgbfgapbcaaGreatDoorChN
import Derived.Test.YthjldgbfgapbcaaGreatDoorGge
set_option linter.unusedSimpArgs false
set_option linter.unusedVariables false
namespace Go.Proofs.YthjldgbfgapbcaaGreatDoor
open Go.RowKit Go.Maps
theorem Qlq {p q:Int} {a:List CL} (h: ∀x∈a,x.s.size≤maxLen):(atC p q a).size≤maxLen:=by
 unfold atC;cases hf:a.find? (fun y=>decide (y.c=p∧y.r=q))with
 | none=>exact Nat.zero_le _
 | some x=>exact h x (List.mem_of_find?_eq_some hf)
theorem Kk: ∀a b:List CL,(dfM a b).length≤a.length+b.length
 | [],[]=>by rw [dfM];simp
 | x::a,[]=>by rw [dfM];have:=Kk a [];simp at this ⊢;omega
 | [],y::b=>by rw [dfM];have:=Kk [] b;simp at this ⊢;omega
 | x::a,y::b=>by
  rw [dfM];have h1:=Kk a (y::b);have h2:=Kk (x::a) b;have h3:=Kk a b;simp only [List.length_cons]at h1 h2 h3 ⊢;split
  ·simp only [List.length_cons];omega
  ·split<;>(simp only [List.length_cons];omega)
 termination_by a b=>a.length+b.length
theorem Qrs {C R:Nat→Int} {S:Nat→ByteArray} {n:Nat} {C' R':Nat→Int} {S':Nat→ByteArray} {m:Nat}:(dfF C R S n C' R' S' m).length≤240:=by
 unfold dfF;split
 ·rename_i h
  have h1:=(Qx h.1).1;have h2:=(Qx h.2).1;have h3:=Kk (clE C R S n) (clE C' R' S' m);rw [Ym,Ym]at h3;have h4:(dfL (clE C R S n) (clE C' R' S' m)).length≤(dfM (clE C R S n) (clE C' R' S' m)).length:=List.length_filter_le _ _;omega
 ·simp
theorem Qtm {C R:Nat→Int} {S:Nat→ByteArray} {n:Nat} {C' R':Nat→Int} {S':Nat→ByteArray} {m:Nat} (hs: ∀i,i<n→(S i).size≤maxLen) (hs': ∀i,i<m→(S' i).size≤maxLen): ∀x∈dfF C R S n C' R' S' m,x.f.size≤maxLen∧x.t.size≤maxLen:=by
 intro x hx;unfold dfF at hx;split at hx
 ·rename_i h
  have h9:=((Yl _ _ (Qx h.1).2.2 (Qx h.2).2.2).1 x).1 (List.mem_filter.1 hx).1;refine⟨?_,?_⟩
  ·rw [h9.2.1];exact Qlq (fun y hy=>by obtain⟨i,hi,rfl⟩:=List.mem_map.1 hy;exact hs i (List.mem_range.1 hi))
  ·rw [h9.2.2];exact Qlq (fun y hy=>by obtain⟨i,hi,rfl⟩:=List.mem_map.1 hy;exact hs' i (List.mem_range.1 hi))
 ·cases hx
end Go.Proofs.YthjldgbfgapbcaaGreatDoor
