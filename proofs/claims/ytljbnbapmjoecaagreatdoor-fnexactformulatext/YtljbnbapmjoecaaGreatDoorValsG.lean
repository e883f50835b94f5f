import Derived.Test.YtljbnbapmjoecaaGreatDoorValsF
import Derived.RegionTactic
namespace Go.Proofs.YtljbnbapmjoecaaGreatDoor
open Go.RowKit

theorem fail_ne {n : Int} (h : rFail n = true) : n ≠ 0 := by unfold rFail at h; simp at h; omega

end Go.Proofs.YtljbnbapmjoecaaGreatDoor
