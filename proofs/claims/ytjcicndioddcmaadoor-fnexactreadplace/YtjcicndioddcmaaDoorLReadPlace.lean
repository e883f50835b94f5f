import Derived.Test.YtjcicndioddcmaaDoorPlaceK
import Derived.Test.YtjcicndioddcmaaDoorPlaceN
import Derived.Test.YtjcicndioddcmaaDoorPlaceV
namespace Go.Proofs.YtjcicndioddcmaaDoor
open Go.RowKit

theorem law_FnExactReadPlace (s : ByteArray) (w : World) (hv : Vars w) (hs : s.size ≤ maxLen) : Calls Tryd.prog 6 #[.string s] w fun e w' =>
    e = .returned (.bool true) ∧ Below w.heap.size w w' := law_FnExactReadPlace_of (fun s w h => spec_ReadPlace_all s w h) s w hv hs
end Go.Proofs.YtjcicndioddcmaaDoor
