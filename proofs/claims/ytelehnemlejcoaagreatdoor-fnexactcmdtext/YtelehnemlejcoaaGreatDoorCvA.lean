import Derived.Test.YtelehnemlejcoaaGreatDoorGaa
import Derived.Test.YtelehnemlejcoaaGreatDoorValsN
import Derived.Deep.RegionHeld3
import Derived.Deep.RegionWith
import Derived.Deep.DeepCutAuto
namespace Go.Proofs.YtelehnemlejcoaaGreatDoor
open Go.RowKit
end Go.Proofs.YtelehnemlejcoaaGreatDoor
