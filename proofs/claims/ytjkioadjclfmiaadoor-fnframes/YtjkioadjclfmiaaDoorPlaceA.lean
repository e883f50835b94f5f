import Derived.Test.YtjkioadjclfmiaaDoorRefs
namespace Go.Proofs.YtjkioadjclfmiaaDoor
open Go.RowKit

def inB (n l h : Int) : Bool := decide (l ≤ n ∧ n ≤ h)

end Go.Proofs.YtjkioadjclfmiaaDoor
