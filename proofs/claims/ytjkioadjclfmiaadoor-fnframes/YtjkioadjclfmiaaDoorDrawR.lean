import Derived.Test.YtjkioadjclfmiaaDoorDrawQ
import Derived.Test.YtjkioadjclfmiaaDoorPlaceE
import Derived.Laws.BytesString
namespace Go.Proofs.YtjkioadjclfmiaaDoor
open Go.RowKit
set_option linter.unusedVariables false

end Go.Proofs.YtjkioadjclfmiaaDoor
