import Derived.Test.YtkdhmdllnaogcaaGreatDoorGaa
import Derived.Test.YtkdhmdllnaogcaaGreatDoorValsN
import Derived.Deep.RegionHeld3
import Derived.Deep.RegionWith
import Derived.Deep.DeepCutAuto
set_option linter.unusedSimpArgs false
set_option linter.unusedVariables false
set_option maxHeartbeats 1000000
namespace Go.Proofs.YtkdhmdllnaogcaaGreatDoor
open Go.RowKit
def or2 (x y:Int):Int:=if x=0 then y else x
theorem Qfy (x y:Int) (b:Nat) (w:World) (c0:w.cell? ⟨b,0,none⟩=some (.int .i64 x)) (c1:w.cell? ⟨b,1,none⟩=some (.int .i64 y)):
  Calls Tryz.prog 66 #[.slice (some ⟨b,0,none⟩) 2 2] w fun e w'=>e= .returned (.int .i64 (or2 x y))∧w'=w:=by
 by_cases hx:x=0
 ·subst hx;by_cases hy:y=0
  ·subst hy;go_enter Tryz.func66,Tryz.ntmps66;go_wp2
   refine wp_loop_rounds 3 ?_;rw [rounds_succ];go_wp2
   rw [rounds_succ];go_wp2
   rw [rounds_succ];go_wp2
   go_ret;exact⟨rfl,rfl⟩
  ·have hq:(y !=0)=true:=by simpa using hy
   go_enter Tryz.func66,Tryz.ntmps66;go_wp2
   refine wp_loop_rounds 3 ?_;rw [rounds_succ];go_wp2
   rw [rounds_succ];go_wp2
   go_ret;exact⟨rfl,rfl⟩
 ·have hq:(x !=0)=true:=by simpa using hx
  go_enter Tryz.func66,Tryz.ntmps66;go_wp2
  refine wp_loop_rounds 3 ?_;rw [rounds_succ];go_wp2
  go_ret;exact⟨Qs (by simp [or2,hx]),rfl⟩
def Qf0 (c r c' r':Int):Int:=or2 (sgn r r') (sgn c c')
theorem Hh (c r c' r':Int):(0≤Qf0 c r c' r')↔XA c r c' r'=false:=by
 unfold Qf0 or2 XA;have:=MY r;by_cases h:r=r'
 ·subst h;rw [if_pos (MY r)];unfold sgn;by_cases h1:c<c'
  ·simp [h1]
  ·by_cases h2:c'<c
   ·simp [h1,h2]
   ·simp [h1,h2]
 ·rw [if_neg (Qgx h).2];unfold sgn;by_cases h1:r<r'
  ·simp [h1]
  ·have h2:r'<r:=by omega
   simp [h1,h2,h]
theorem YN (c r c' r':Int) (w:World):Calls Tryz.prog 52 #[.agg #[.int .i64 c,.int .i64 r],.agg #[.int .i64 c',.int .i64 r']] w fun e w'=>
  e= .returned (.int .i64 (Qf0 c r c' r'))∧Below w.heap.size w w':=by
 go_enter Tryz.func52,Tryz.ntmps52;go_wp2_with fail
 go_region_held3 (fun w'=>(∀bq oq,bq<w.heap.size+2→w'.cell? ⟨bq,oq,none⟩=((w.alloc (.cells #[.int .i64 c,.int .i64 r] 45)).alloc (.cells #[.int .i64 c',.int .i64 r'] 45)).cell? ⟨bq,oq,none⟩)∧w.heap.size+2≤w'.heap.size∧Below (w.heap.size+2) ((w.alloc (.cells #[.int .i64 c,.int .i64 r] 45)).alloc (.cells #[.int .i64 c',.int .i64 r'] 45)) w')
  (exact Qo (by go_size) (by go_grown))
  (first
  | (go_at_call 67;refine(Qfz _ _ _).mono ?_;rintro e w1 ⟨rfl,rfl⟩)
  | (go_at_call 66;refine(Qfy (sgn r r') (sgn c c') _ _ ?_ ?_).mono ?_;(focus (go_simp;done));(focus (go_simp;done));rintro e w1 ⟨rfl,rfl⟩))
 all_goals go_wp2_with fail
 all_goals
  go_ret;exact⟨rfl,Zu (n:=2) (X:=((w.alloc (.cells #[.int .i64 c,.int .i64 r] 45)).alloc (.cells #[.int .i64 c',.int .i64 r'] 45))) (by go_grown) (by go_grown)⟩
end Go.Proofs.YtkdhmdllnaogcaaGreatDoor
