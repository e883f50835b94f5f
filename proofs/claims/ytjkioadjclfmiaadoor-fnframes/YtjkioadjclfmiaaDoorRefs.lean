import Derived.Test.YtjkioadjclfmiaaDoorBase
namespace Go.Proofs.YtjkioadjclfmiaaDoor
open Go.RowKit

def refOkB (c r : Int) : Bool := decide (1 ≤ c ∧ c ≤ 52 ∧ 1 ≤ r ∧ r ≤ 99)
/-- The place (c, r) stands ahead of (c', r'). -/
def aheadB (c r c' r' : Int) : Bool := decide (r < r' ∨ r = r' ∧ c < c')

end Go.Proofs.YtjkioadjclfmiaaDoor
