import Derived.Test.YthjpfkpcemgefaaGreatDoorGbd
import Derived.Test.YthjpfkpcemgefaaGreatDoorGay
set_option linter.unusedSimpArgs false
set_option linter.unusedVariables false
namespace Go.Proofs.YthjpfkpcemgefaaGreatDoor
open Go.RowKit
def strip:List UInt8→List UInt8
 | []=> []
 | [b]=> [b]
 | b::c::t=>if b=48 then strip (c::t)else b::c::t
def u15 (l:List UInt8):Option Nat:=match l16 (strip l)with
 | some m=>if m≤1000000000000000 then some m else none
 | none=>none
def sgn5 (b:Bool) (o:Option Nat):Option Int:=match o with
 | some m=>some (if b then-(m:Int)else(m:Int))
 | none=>none
def n5 (l:List UInt8):Option Int:=if l.head? =some 45 then(if l.tail= []then none else sgn5 true (u15 l.tail))else(if l= []then none else sgn5 false (u15 l))
theorem rd_goodI {s:ByteArray} {out:List FN} (h:rdF s=some out):good out=true∧1≤out.length∧fOkB (ouF out) out.length=true:=by
 unfold rdF at h
 split at h
 ·obtain⟨y,hy⟩: ∃y,PB RF 1 1 0 [] s.data.toList []=y:=⟨_,rfl⟩
  rw [hy]at h
  cases y with
  | none=>cases h
  | some z=>
   unfold rdE at h
   simp only at h
   split at h
   ·rename_i hc
    cases h
    refine⟨hc.2.1,?_,hc.2.2⟩
    have h9:=hc.2.2
    unfold fOkB at h9
    simp only [Bool.and_eq_true,decide_eq_true_eq]at h9
    exact h9.1.1.1.1.1
   ·cases h
 ·cases h
theorem good_atI {out:List FN} (h:good out=true):(∀i,i<out.length→(ouF out i).cs.size≤maxLen)∧(∀i,i<out.length→(ouF out i).kids.length≤1048576):=
 ⟨fun i hi=>Nat.le_trans (nodeX_small (ouF_good h i hi)).1 (by unfold maxLen;omega),fun i hi=>Nat.le_trans (nodeX_small (ouF_good h i hi)).2 (by omega)⟩
theorem ftx_size (F:Nat→FN) (n:Nat):(ftx F n).size≤200:=by
 unfold ftx
 split
 ·rename_i h
  rw [bs_size]
  exact h.2
 ·exact Nat.zero_le _
theorem emp_size {t:ByteArray} (h:t.size=0):t.toList.isEmpty=true:=by
 rw [toList_nil_of h,ByteArray.toList_eq]
 rfl
end Go.Proofs.YthjpfkpcemgefaaGreatDoor
