import Derived.Test.YtjkioadjclfmiaaDoorPlaceD
namespace Go.Proofs.YtjkioadjclfmiaaDoor
open Go.RowKit

end Go.Proofs.YtjkioadjclfmiaaDoor
