import Derived.Test.YtkdhmdllnaogcaaGreatDoorGac
import Derived.Deep.RegionHeld3
set_option linter.unusedSimpArgs false
set_option linter.unusedVariables false
set_option maxHeartbeats 400000
namespace Go.Proofs.YtkdhmdllnaogcaaGreatDoor
open Go.RowKit
def sgn (a b:Int):Int:=if a<b then-1 else if b<a then 1 else 0
def cS (s t:ByteArray):Int:=if Op.bytesLess s.toList t.toList then-1 else if s.toList==t.toList then 0 else 1
def or3 (x y z:Int):Int:=if x=0 then(if y=0 then z else y)else x
theorem Qfz (a b:Int) (w:World):Calls Tryz.prog 67 #[.int .i64 a,.int .i64 b] w fun e w'=>
  e= .returned (.int .i64 (sgn a b))∧w'=w:=by
 go_enter Tryz.func67,Tryz.ntmps67;go_wp2
 all_goals
  go_ret;refine⟨Qs ?_,rfl⟩;unfold sgn
  (repeat split)<;>omega
theorem cmp_or (x y z:Int) (b:Nat) (w:World) (c0:w.cell? ⟨b,0,none⟩=some (.int .i64 x)) (c1:w.cell? ⟨b,1,none⟩=some (.int .i64 y)) (c2:w.cell? ⟨b,2,none⟩=some (.int .i64 z)):
  Calls Tryz.prog 66 #[.slice (some ⟨b,0,none⟩) 3 3] w fun e w'=>e= .returned (.int .i64 (or3 x y z))∧w'=w:=by
 by_cases hx:x=0
 ·subst hx;by_cases hy:y=0
  ·subst hy;by_cases hz:z=0
   ·subst hz;go_enter Tryz.func66,Tryz.ntmps66;go_wp2
    refine wp_loop_rounds 4 ?_;rw [rounds_succ];go_wp2
    rw [rounds_succ];go_wp2
    rw [rounds_succ];go_wp2
    rw [rounds_succ];go_wp2
    go_ret;exact⟨rfl,rfl⟩
   ·have hq:(z !=0)=true:=by simpa using hz
    go_enter Tryz.func66,Tryz.ntmps66;go_wp2
    refine wp_loop_rounds 4 ?_;rw [rounds_succ];go_wp2
    rw [rounds_succ];go_wp2
    rw [rounds_succ];go_wp2
    go_ret;exact⟨rfl,rfl⟩
  ·have hq:(y !=0)=true:=by simpa using hy
   go_enter Tryz.func66,Tryz.ntmps66;go_wp2
   refine wp_loop_rounds 4 ?_;rw [rounds_succ];go_wp2
   rw [rounds_succ];go_wp2
   go_ret;exact⟨Qs (by simp [or3,hy]),rfl⟩
 ·have hq:(x !=0)=true:=by simpa using hx
  go_enter Tryz.func66,Tryz.ntmps66;go_wp2
  refine wp_loop_rounds 4 ?_;rw [rounds_succ];go_wp2
  go_ret;exact⟨Qs (by simp [or3,hx]),rfl⟩
def ordV (k n:Int) (s:ByteArray) (k' n':Int) (s':ByteArray):Int:=or3 (sgn k k') (sgn n n') (cS s s')
theorem Qgx {a b:Int} (h: ¬a=b):sgn a b=(if decide (a<b)then-1 else if true then 1 else 0)∧ ¬sgn a b=0:=by
 unfold sgn;by_cases h1:a<b
 ·simp [h1]
 ·have h2:b<a:=by omega
  simp [h1,h2]
theorem MY (a:Int):sgn a a=0:=by unfold sgn;simp
end Go.Proofs.YtkdhmdllnaogcaaGreatDoor
