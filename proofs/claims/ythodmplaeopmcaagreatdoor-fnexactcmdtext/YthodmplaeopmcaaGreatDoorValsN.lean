import Derived.Test.YthodmplaeopmcaaGreatDoorGac
import Derived.Deep.RegionHeld3
namespace Go.Proofs.YthodmplaeopmcaaGreatDoor
open Go.RowKit
end Go.Proofs.YthodmplaeopmcaaGreatDoor
