import Derived.Test.YthodmplaeopmcaaGreatDoorGaa
import Derived.Test.YthodmplaeopmcaaGreatDoorValsN
import Derived.Deep.RegionHeld3
import Derived.Deep.RegionWith
import Derived.Deep.DeepCutAuto
namespace Go.Proofs.YthodmplaeopmcaaGreatDoor
open Go.RowKit
end Go.Proofs.YthodmplaeopmcaaGreatDoor
