import Derived.Test.YthagnaeemipnlaaDrawD
namespace Go.Proofs.Ythagnaeemipnlaa
open Go.RowKit

end Go.Proofs.Ythagnaeemipnlaa
