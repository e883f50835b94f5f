import Derived.Test.YtelehnemlejcoaaGreatDoorGac
import Derived.Deep.RegionHeld3
namespace Go.Proofs.YtelehnemlejcoaaGreatDoor
open Go.RowKit
end Go.Proofs.YtelehnemlejcoaaGreatDoor
