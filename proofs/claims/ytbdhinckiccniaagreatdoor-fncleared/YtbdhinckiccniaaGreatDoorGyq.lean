import Derived.Test.YtbdhinckiccniaaGreatDoorGzj
set_option linter.unusedSimpArgs false
set_option linter.unusedVariables false
namespace Go.Proofs.YtbdhinckiccniaaGreatDoor
open Go.RowKit
structure CE where
 c:Int
 r:Int
 s:ByteArray
def ceL (x:CE):List Value:= [.int .i64 x.c,.int .i64 x.r,.string x.s]
def Qvu (k:Int):CE:=⟨k,(k+1),mtx (k+1+1)⟩
end Go.Proofs.YtbdhinckiccniaaGreatDoor
