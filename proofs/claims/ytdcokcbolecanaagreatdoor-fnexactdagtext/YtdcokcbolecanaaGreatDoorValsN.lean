import Derived.Test.YtdcokcbolecanaaGreatDoorGac
import Derived.Deep.RegionHeld3
set_option linter.unusedSimpArgs false
set_option linter.unusedVariables false
set_option maxHeartbeats 400000
namespace Go.Proofs.YtdcokcbolecanaaGreatDoor
open Go.RowKit
def sgn (a b:Int):Int:=if a<b then-1 else if b<a then 1 else 0
theorem Qik (a b:Int) (w:World):Calls Tryz.prog 112 #[.int .i64 a,.int .i64 b] w fun e w'=>
  e= .returned (.int .i64 (sgn a b))∧w'=w:=by
 go_enter Tryz.func112,Tryz.ntmps112;go_wp2
 all_goals
  go_ret;refine⟨Qu ?_,rfl⟩;unfold sgn
  (repeat split)<;>omega
theorem Qjo {a b:Int} (h: ¬a=b):sgn a b=(if decide (a<b)then-1 else if true then 1 else 0)∧ ¬sgn a b=0:=by
 unfold sgn;by_cases h1:a<b
 ·simp [h1]
 ·have h2:b<a:=by omega
  simp [h1,h2]
theorem OE (a:Int):sgn a a=0:=by unfold sgn;simp
end Go.Proofs.YtdcokcbolecanaaGreatDoor
