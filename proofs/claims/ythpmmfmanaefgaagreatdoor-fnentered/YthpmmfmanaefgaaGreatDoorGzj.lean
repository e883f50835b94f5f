import Derived.Test.YthpmmfmanaefgaaGreatDoorGaa
import Derived.Test.YthpmmfmanaefgaaGreatDoorGad
import Derived.Deep.RegionHeld3
import Derived.Deep.RegionWith
import Derived.Deep.DeepCutAuto
import Derived.Deep.AppendLies
import Derived.Deep.QuietTactic
import Derived.BigQuiet
import Derived.Laws.BytesString
set_option linter.unusedSimpArgs false
set_option linter.unusedVariables false
set_option maxHeartbeats 1000000
namespace Go.Proofs.YthpmmfmanaefgaaGreatDoor
open Go.RowKit
def or2 (x y:Int):Int:=if x=0 then y else x
theorem cmp_or2 (x y:Int) (b:Nat) (w:World) (c0:w.cell? ⟨b,0,none⟩=some (.int .i64 x)) (c1:w.cell? ⟨b,1,none⟩=some (.int .i64 y)):
  Calls Tryz.prog 61 #[.slice (some ⟨b,0,none⟩) 2 2] w fun e w'=>e= .returned (.int .i64 (or2 x y))∧w'=w:=by
 by_cases hx:x=0
 ·subst hx
  by_cases hy:y=0
  ·subst hy
   go_enter Tryz.func61,Tryz.ntmps61
   go_wp2
   refine wp_loop_rounds 3 ?_
   rw [rounds_succ]
   go_wp2
   rw [rounds_succ]
   go_wp2
   rw [rounds_succ]
   go_wp2
   go_ret
   exact⟨rfl,rfl⟩
  ·have hq:(y !=0)=true:=by simpa using hy
   go_enter Tryz.func61,Tryz.ntmps61
   go_wp2
   refine wp_loop_rounds 3 ?_
   rw [rounds_succ]
   go_wp2
   rw [rounds_succ]
   go_wp2
   go_ret
   exact⟨rfl,rfl⟩
 ·have hq:(x !=0)=true:=by simpa using hx
  go_enter Tryz.func61,Tryz.ntmps61
  go_wp2
  refine wp_loop_rounds 3 ?_
  rw [rounds_succ]
  go_wp2
  go_ret
  exact⟨ret_int (by simp [or2,hx]),rfl⟩
def cmpR (c r c' r':Int):Int:=or2 (sgn r r') (sgn c c')
theorem cmpR_ahead (c r c' r':Int):(0≤cmpR c r c' r')↔aheadB c r c' r'=false:=by
 unfold cmpR or2 aheadB
 have:=sgn_self r
 by_cases h:r=r'
 ·subst h
  rw [if_pos (sgn_self r)]
  unfold sgn
  by_cases h1:c<c'
  ·simp [h1]
  ·by_cases h2:c'<c
   ·simp [h1,h2]
   ·simp [h1,h2]
 ·rw [if_neg (sgn_ne h).2]
  unfold sgn
  by_cases h1:r<r'
  ·simp [h1]
  ·have h2:r'<r:=by omega
   simp [h1,h2,h]
theorem impl_compareRefs (c r c' r':Int) (w:World):Calls Tryz.prog 38 #[.agg #[.int .i64 c,.int .i64 r],.agg #[.int .i64 c',.int .i64 r']] w fun e w'=>
  e= .returned (.int .i64 (cmpR c r c' r'))∧Below w.heap.size w w':=by
 go_enter Tryz.func38,Tryz.ntmps38
 go_wp2_with fail
 go_region_held3 (fun w'=>(∀bq oq,bq<w.heap.size+2→w'.cell? ⟨bq,oq,none⟩=((w.alloc (.cells #[.int .i64 c,.int .i64 r] 26)).alloc (.cells #[.int .i64 c',.int .i64 r'] 26)).cell? ⟨bq,oq,none⟩)∧w.heap.size+2≤w'.heap.size∧Below (w.heap.size+2) ((w.alloc (.cells #[.int .i64 c,.int .i64 r] 26)).alloc (.cells #[.int .i64 c',.int .i64 r'] 26)) w')
  (exact sc_of (by go_size) (by go_grown))
  (first
  | (go_at_call 62;refine(cmp_int _ _ _).mono ?_;rintro e w1 ⟨rfl,rfl⟩)
  | (go_at_call 61;refine(cmp_or2 (sgn r r') (sgn c c') _ _ ?_ ?_).mono ?_;(focus (go_simp;done));(focus (go_simp;done));rintro e w1 ⟨rfl,rfl⟩))
 all_goals go_wp2_with fail
 all_goals
  go_ret
  exact⟨rfl,bfin (n:=2) (X:=((w.alloc (.cells #[.int .i64 c,.int .i64 r] 26)).alloc (.cells #[.int .i64 c',.int .i64 r'] 26))) (by go_grown) (by go_grown)⟩
def flat {α:Type} (f:α→List Value) (L:List α):List Value:=L.flatMap f
theorem flat_snoc {α:Type} (f:α→List Value) (L:List α) (x:α):flat f (L++ [x])=flat f L++f x:=by simp [flat]
theorem flat_len {α:Type} {f:α→List Value} {k:Nat} (hk: ∀x,(f x).length=k): ∀L:List α,(flat f L).length=L.length*k
 | []=>by simp [flat]
 | x::L=>by
  have h:=flat_len hk L
  simp only [flat,List.flatMap_cons,List.length_append,List.length_cons]at h ⊢
  rw [h,hk,Nat.add_mul];omega
theorem flat_at {α:Type} {f:α→List Value} {k:Nat} (hk: ∀x,(f x).length=k) (j:Nat) (hj:j<k): ∀(L:List α) (i:Nat),(flat f L)[i*k+j]? =(L[i]?).bind (fun x=>(f x)[j]?)
 | [],i=>by simp [flat]
 | x::L,0=>by
  simp only [flat,List.flatMap_cons,Nat.zero_mul,Nat.zero_add,List.getElem?_cons_zero,Option.bind_some]
  rw [List.getElem?_append_left (by rw [hk];exact hj)]
 | x::L,i+1=>by
  have h:=flat_at hk j hj L i
  simp only [flat,List.flatMap_cons,List.getElem?_cons_succ]at h ⊢
  rw [List.getElem?_append_right (by rw [hk,Nat.add_mul];omega),hk,←h]
  congr 1
  rw [Nat.add_mul];omega
def RowAt {α:Type} (k:Nat) (f:α→List Value) (W:World) (A:Option Addr) (L:List α):Prop:=
 L.length≤maxLen∧ ∀i x,L[i]? =some x→ ∃b o,A=some ⟨b,o,none⟩∧b<W.heap.size∧ ∀j v,(f x)[j]? =some v→W.cell? ⟨b,o+i*k+j,none⟩=some v
theorem RowAt.below {α:Type} {k:Nat} {f:α→List Value} {W W':World} {A:Option Addr} {L:List α} (h:RowAt k f W A L) (hb:Below W.heap.size W W'):RowAt k f W' A L:=
 ⟨h.1,fun i x hx=>by
  obtain⟨b,o,e,hl,hc⟩:=h.2 i x hx
  exact⟨b,o,e,Nat.lt_of_lt_of_le hl hb.size,fun j v hv=>(hb.cell (p:=⟨b,_,none⟩) hl).trans (hc j v hv)⟩⟩
theorem own_empty {W:World} {B g:Nat} {e:TypeId} {size:Nat} (hB:B≤W.heap.size) (hg:g=W.heap.size):(W.alloc (.cells #[] e)).ownsRow B e size (.slice (some ⟨g,0,none⟩) 0 0) 0 []:=by
 subst hg
 exact World.ownsRow_made W #[] 0 hB (Nat.zero_le _) (by simp)
end Go.Proofs.YthpmmfmanaefgaaGreatDoor
