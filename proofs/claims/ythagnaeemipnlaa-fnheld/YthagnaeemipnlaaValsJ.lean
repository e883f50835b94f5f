import Derived.Test.YthagnaeemipnlaaValsI
namespace Go.Proofs.Ythagnaeemipnlaa
open Go.RowKit

end Go.Proofs.Ythagnaeemipnlaa
