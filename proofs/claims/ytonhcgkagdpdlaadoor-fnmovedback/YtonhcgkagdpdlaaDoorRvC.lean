import Derived.Test.YtonhcgkagdpdlaaDoorGag
set_option linter.unusedSimpArgs false
set_option linter.unusedVariables false
namespace Go.Proofs.YtonhcgkagdpdlaaDoor
open Go.RowKit
end Go.Proofs.YtonhcgkagdpdlaaDoor
