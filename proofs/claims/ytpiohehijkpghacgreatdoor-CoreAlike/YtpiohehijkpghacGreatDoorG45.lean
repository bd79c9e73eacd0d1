/- All that the laws of a core lean on. -/
import Derived.Test.YtpiohehijkpghacGreatDoorG01
import Derived.Test.YtpiohehijkpghacGreatDoorG44
import Derived.Test.YtpiohehijkpghacGreatDoorG43
namespace Go.Proofs.YtpiohehijkpghacGreatDoor
theorem rootA:True:=trivial
end Go.Proofs.YtpiohehijkpghacGreatDoor
