import Derived.Test.YthjldgbfgapbcaaGreatDoorGaa
import Derived.Test.YthjldgbfgapbcaaGreatDoorGad
import Derived.Deep.RegionHeld3
import Derived.Deep.RegionWith
import Derived.Deep.DeepCutAuto
import Derived.Deep.AppendLies
import Derived.Deep.QuietTactic
import Derived.BigQuiet
import Derived.Laws.BytesString
set_option linter.unusedSimpArgs false
set_option linter.unusedVariables false
set_option maxHeartbeats 1000000
namespace Go.Proofs.YthjldgbfgapbcaaGreatDoor
open Go.RowKit
def or2 (x y:Int):Int:=if x=0 then y else x
theorem Qcs (x y:Int) (b:Nat) (w:World) (c0:w.cell? ⟨b,0,none⟩=some (.int .i64 x)) (c1:w.cell? ⟨b,1,none⟩=some (.int .i64 y)):
  Calls Tryz.prog 77 #[.slice (some ⟨b,0,none⟩) 2 2] w fun e w'=>e= .returned (.int .i64 (or2 x y))∧w'=w:=by
 by_cases hx:x=0
 ·subst hx;by_cases hy:y=0
  ·subst hy;go_enter Tryz.func77,Tryz.ntmps77;go_wp2
   refine wp_loop_rounds 3 ?_;rw [rounds_succ];go_wp2
   rw [rounds_succ];go_wp2
   rw [rounds_succ];go_wp2
   go_ret;exact⟨rfl,rfl⟩
  ·have hq:(y !=0)=true:=by simpa using hy
   go_enter Tryz.func77,Tryz.ntmps77;go_wp2
   refine wp_loop_rounds 3 ?_;rw [rounds_succ];go_wp2
   rw [rounds_succ];go_wp2
   go_ret;exact⟨rfl,rfl⟩
 ·have hq:(x !=0)=true:=by simpa using hx
  go_enter Tryz.func77,Tryz.ntmps77;go_wp2
  refine wp_loop_rounds 3 ?_;rw [rounds_succ];go_wp2
  go_ret;exact⟨QZ (by simp [or2,hx]),rfl⟩
def Qai (c r c' r':Int):Int:=or2 (sgn r r') (sgn c c')
theorem Ki (c r c' r':Int):(0≤Qai c r c' r')↔ZT c r c' r'=false:=by
 unfold Qai or2 ZT;have:=Bl r;by_cases h:r=r'
 ·subst h;rw [if_pos (Bl r)];unfold sgn;by_cases h1:c<c'
  ·simp [h1]
  ·by_cases h2:c'<c
   ·simp [h1,h2]
   ·simp [h1,h2]
 ·rw [if_neg (Qnq h).2];unfold sgn;by_cases h1:r<r'
  ·simp [h1]
  ·have h2:r'<r:=by omega
   simp [h1,h2,h]
theorem XA (c r c' r':Int) (w:World):Calls Tryz.prog 58 #[.agg #[.int .i64 c,.int .i64 r],.agg #[.int .i64 c',.int .i64 r']] w fun e w'=>
  e= .returned (.int .i64 (Qai c r c' r'))∧Below w.heap.size w w':=by
 go_enter Tryz.func58,Tryz.ntmps58;go_wp2_with fail
 go_region_held3 (fun w'=>(∀bq oq,bq<w.heap.size+2→w'.cell? ⟨bq,oq,none⟩=((w.alloc (.cells #[.int .i64 c,.int .i64 r] 38)).alloc (.cells #[.int .i64 c',.int .i64 r'] 38)).cell? ⟨bq,oq,none⟩)∧w.heap.size+2≤w'.heap.size∧Below (w.heap.size+2) ((w.alloc (.cells #[.int .i64 c,.int .i64 r] 38)).alloc (.cells #[.int .i64 c',.int .i64 r'] 38)) w')
  (exact Qm (by go_size) (by go_grown))
  (first
  | (go_at_call 78;refine(Qct _ _ _).mono ?_;rintro e w1 ⟨rfl,rfl⟩)
  | (go_at_call 77;refine(Qcs (sgn r r') (sgn c c') _ _ ?_ ?_).mono ?_;(focus (go_simp;done));(focus (go_simp;done));rintro e w1 ⟨rfl,rfl⟩))
 all_goals go_wp2_with fail
 all_goals
  go_ret;exact⟨rfl,Yd (n:=2) (X:=((w.alloc (.cells #[.int .i64 c,.int .i64 r] 38)).alloc (.cells #[.int .i64 c',.int .i64 r'] 38))) (by go_grown) (by go_grown)⟩
def Zb {α:Type} (f:α→List Value) (L:List α):List Value:=L.flatMap f
theorem Ge {α:Type} (f:α→List Value) (L:List α) (x:α):Zb f (L++ [x])=Zb f L++f x:=by simp [Zb]
theorem JX {α:Type} {f:α→List Value} {k:Nat} (hk: ∀x,(f x).length=k): ∀L:List α,(Zb f L).length=L.length*k
 | []=>by simp [Zb]
 | x::L=>by
  have h:=JX hk L;simp only [Zb,List.flatMap_cons,List.length_append,List.length_cons]at h ⊢;rw [h,hk,Nat.add_mul];omega
theorem Qch {α:Type} {f:α→List Value} {k:Nat} (hk: ∀x,(f x).length=k) (j:Nat) (hj:j<k): ∀(L:List α) (i:Nat),(Zb f L)[i*k+j]? =(L[i]?).bind (fun x=>(f x)[j]?)
 | [],i=>by simp [Zb]
 | x::L,0=>by
  simp only [Zb,List.flatMap_cons,Nat.zero_mul,Nat.zero_add,List.getElem?_cons_zero,Option.bind_some];rw [List.getElem?_append_left (by rw [hk];exact hj)]
 | x::L,i+1=>by
  have h:=Qch hk j hj L i;simp only [Zb,List.flatMap_cons,List.getElem?_cons_succ]at h ⊢;rw [List.getElem?_append_right (by rw [hk,Nat.add_mul];omega),hk,←h];congr 1
  rw [Nat.add_mul];omega
def RowAt {α:Type} (k:Nat) (f:α→List Value) (W:World) (A:Option Addr) (L:List α):Prop:=
 L.length≤maxLen∧ ∀i x,L[i]? =some x→ ∃b o,A=some ⟨b,o,none⟩∧b<W.heap.size∧ ∀j v,(f x)[j]? =some v→W.cell? ⟨b,o+i*k+j,none⟩=some v
theorem RowAt.below {α:Type} {k:Nat} {f:α→List Value} {W W':World} {A:Option Addr} {L:List α} (h:RowAt k f W A L) (hb:Below W.heap.size W W'):RowAt k f W' A L:=
 ⟨h.1,fun i x hx=>by
  obtain⟨b,o,e,hl,hc⟩:=h.2 i x hx
  exact⟨b,o,e,Nat.lt_of_lt_of_le hl hb.size,fun j v hv=>(hb.cell (p:=⟨b,_,none⟩) hl).trans (hc j v hv)⟩⟩
theorem Vk {W:World} {B g:Nat} {e:TypeId} {size:Nat} (hB:B≤W.heap.size) (hg:g=W.heap.size):(W.alloc (.cells #[] e)).ownsRow B e size (.slice (some ⟨g,0,none⟩) 0 0) 0 []:=by
 subst hg;exact World.ownsRow_made W #[] 0 hB (Nat.zero_le _) (by simp)
end Go.Proofs.YthjldgbfgapbcaaGreatDoor
